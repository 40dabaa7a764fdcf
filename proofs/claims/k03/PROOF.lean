import PyProof.Rows.All
import Wide.All
import OpenK.AllK
import Wide.FinOn
import HandS.ForMost
import HandS.ExcValue
import HandS.IsInst
import HandS.Wide
import PySem.Challenge.RW_playsalike_k03_places_of_wrong_parts
import KE.KExcSuper
import HandS.Exc
import HandS.ExcIs
import HandS.ExcInit
import HandS.MakeKw
import HandS.HeadWalk
import HandS.MakeKwOnly
import KE.KExcIs
import PyProof.ReprReads
import PyProof.ReprRoads
import HandS.Ends
import HandS.Walk
import HandS.Text
import HandS.Iter
import HandS.WordsDict
import HandS.WordsExc
import HandS.ExcOwn
import HandS.TupLe
import HandS.List
import HandS.Zip
import HandS.TupAny
import HandS.More
import HandS.Lambda
import KE.KxIndex
import HandS.Base
import HandS.Call
import HandS.Words
import HandS.Dict
import HandS.ListItems
import HandS.Steps
import KE.GoesEnum
import HandS.TupMul
import HandS.EndOwn
set_option Elab.async false
set_option linter.all false
set_option maxRecDepth 100000
set_option maxHeartbeats 4000000
namespace Dk
open PySem PySem.Spec PyProof.Rows L2
def top (i : Nat) : Stmt := PySem.Challenge.pw_playsalike_k03_places_of_wrong_parts.main.body.getD i (.Pass ⟨0, 0, 0, 0⟩)
abbrev sBegun : Stmt := top 48
abbrev sMixed : Stmt := top 49
abbrev sTake : Stmt := top 50
abbrev sPick : Stmt := top 51
theorem scBegun : FnScope ["script", "large", "grain"] ["script"] (defScope sBegun) := ⟨rfl, rfl, rfl, by decide +kernel, rfl, by decide +kernel, by decide +kernel⟩
theorem scMixed : FnScope ["draw", "turn", "found", "great", "blend", "grain"] ["draw"] (defScope sMixed) := ⟨rfl, rfl, rfl, by decide +kernel, rfl, by decide +kernel, by decide +kernel⟩
theorem scTake : FnScope ["draw", "amount", "found"] ["draw", "amount"] (defScope sTake) := ⟨rfl, rfl, rfl, by decide +kernel, rfl, by decide +kernel, by decide +kernel⟩
theorem scPick : FnScope ["draw", "some"] ["draw", "some"] (defScope sPick) := ⟨rfl, rfl, rfl, by decide +kernel, rfl, by decide +kernel, by decide +kernel⟩

/-! the drawing dict -/
def dkv (l c : Addr) (r t : Int) : List (Key × V) :=
  [(.inr "large", .ref l), (.inr "rest", .int r), (.inr "cells", .ref c), (.inr "turn", .int t)]
theorem n1 : ¬ (("large" : Str) = "rest") := by decide +kernel
theorem n2 : ¬ (("large" : Str) = "cells") := by decide +kernel
theorem n3 : ¬ (("large" : Str) = "turn") := by decide +kernel
theorem n4 : ¬ (("rest" : Str) = "cells") := by decide +kernel
theorem n5 : ¬ (("rest" : Str) = "turn") := by decide +kernel
theorem n6 : ¬ (("cells" : Str) = "turn") := by decide +kernel
theorem m1 : ¬ (("rest" : Str) = "large") := by decide +kernel
theorem m2 : ¬ (("cells" : Str) = "large") := by decide +kernel
theorem m3 : ¬ (("turn" : Str) = "large") := by decide +kernel
theorem m4 : ¬ (("cells" : Str) = "rest") := by decide +kernel
theorem m5 : ¬ (("turn" : Str) = "rest") := by decide +kernel
theorem m6 : ¬ (("turn" : Str) = "cells") := by decide +kernel
section
variable (l c : Addr) (r t x : Int)
theorem v_large : valV (dkv l c r t) (Sum.inr "large" : Key) = some (.ref l) := by simp [dkv, valV]
theorem v_rest : valV (dkv l c r t) (Sum.inr "rest" : Key) = some (.int r) := by simp [dkv, valV, n1]
theorem v_cells : valV (dkv l c r t) (Sum.inr "cells" : Key) = some (.ref c) := by simp [dkv, valV, n2, n4]
theorem v_turn : valV (dkv l c r t) (Sum.inr "turn" : Key) = some (.int t) := by simp [dkv, valV, n3, n5, n6]
theorem p_rest : putK (dkv l c r t) (Sum.inr "rest" : Key) (.int x) = dkv l c x t := by simp [dkv, putK, n1, m4, m5]
theorem p_turn : putK (dkv l c r t) (Sum.inr "turn" : Key) (.int x) = dkv l c r x := by simp [dkv, putK, n3, n5, n6]
theorem merged_eq : mergeK [] (dkv l c r t) = dkv l c r t := by
  simp [dkv, mergeK, putK, n1, n2, n3, n4, n5, n6]
end
/-- a drawing dict stands at d, its lists at l and c -/
structure DrawAt (H : Hp) (d l c : Addr) : Prop where
  dl : d ≠ l
  dc : d ≠ c
  lc : l ≠ c
  ex : ∃ (r t : Int) (ls cs : List Int), H d = some (.dK (dkv l c r t)) ∧ H l = some (.lst (ls.map V.int)) ∧ H c = some (.lst (cs.map V.int)) ∧ ls.length ≤ 1000 ∧ cs.length ≤ 1000
/-- all but the drawing dict and its first list is as it was -/
def But (H H' : Hp) (d l : Addr) : Prop := ∀ b o, H b = some o → b ≠ d → b ≠ l → H' b = some o
theorem But.refl (H : Hp) (d l : Addr) : But H H d l := fun _ _ h _ _ => h
theorem But.trans {H H1 H2 : Hp} {d l : Addr} (a : But H H1 d l) (b : But H1 H2 d l) : But H H2 d l := fun x o h h1 h2 => b x o (a x o h h1 h2) h1 h2

def spBegun (K : PySem.W.Frag) : Sp := fun vs H Q _ => ∃ (a : Addr) (ns : List Int), vs = [.ref a] ∧ SqL K H a (ns.map V.int) ∧ ns.length ≤ 63 ∧
  ∀ (d l c : Addr) (H' : Hp), Same H H' → H d = none → H l = none → H c = none → DrawAt H' d l c → Q (.ref d) H'
def spMixed : Sp := fun vs H Q _ => ∃ (d l c : Addr), vs = [.ref d] ∧ DrawAt H d l c ∧ ∀ (n : Int) (H' : Hp), DrawAt H' d l c → But H H' d l → Q (.int n) H'
def spTake : Sp := fun vs H Q _ => ∃ (d l c : Addr) (m : Int), vs = [.ref d, .int m] ∧ 0 < m ∧ m < 1000000 ∧ DrawAt H d l c ∧ ∀ (n : Int) (H' : Hp), 0 ≤ n → n < m → DrawAt H' d l c → But H H' d l → Q (.int n) H'
def spPick (K : PySem.W.Frag) : Sp := fun vs H Q _ => ∃ (d l c a : Addr) (xs : List V), vs = [.ref d, .ref a] ∧ H a = some (.lst xs) ∧ a ≠ d ∧ a ≠ l ∧ 0 < xs.length ∧ xs.length < 1000 ∧ DrawAt H d l c ∧
  ∀ (i : Nat) (x : V) (H' : Hp), xs[i]? = some x → DrawAt H' d l c → But H H' d l → Q x H'
section
variable {P : Program} {w : World} {K : PySem.W.Frag} {mg : Str → Option Value} {base : Heap}
theorem len_take_map {ns : List Int} {i : Nat} {x : V} (h : (ns.map V.int)[i]? = some x) : ∃ z, x = .int z ∧ i < ns.length := by
  rw [List.getElem?_map] at h
  cases e : ns[i]? with
  | none => rw [e] at h; cases h
  | some z => rw [e] at h; exact ⟨z, (Option.some.inj h).symm, (List.getElem?_eq_some_iff.mp e).1⟩
theorem ok_begun {f : Addr} {fd : FuncData} (F : Fun K "_law_begun" "_law_begun" sBegun f fd) (mA : mg "abs" = none) : FnOk P w K mg base CX0 1 f fd ["script"] (spBegun K) := by
  refine F.ok scBegun (fun vs H Q E h => ?_) (fun cdv A outer s H vs Q E hr h => ?_)
  · obtain ⟨a, ns, rfl, _⟩ := h
    rfl
  · obtain ⟨a, ns, rfl, hS, hlen, k⟩ := h
    have hu := hu_of hr
    have nd := scBegun.nd
    refine ⟨_, pss_cons (ps_setLc (i := 1) (own := [("grain", 2)]) (g := gName 2) rfl nd rfl rfl (sw_true rfl rfl rfl (by decide +kernel)) (pi_list (pv 0))
        (blkOk_by (N := ["script", "large", "grain"]) (sc := defScope sBegun) (by decide +kernel)) (fun _ _ _ _ _ => pg_name (i := 2) nd rfl (Or.inl rfl))
        (fun _ _ _ _ _ => pts_one (pt_cmpR op_ge (pe_callB call_abs (by rfl) mA (by decide +kernel) (pa_cons (pv 2) pa_nil)) (pe_op op_pow pe_int pe_int) (nomark _)))
        (fun _ _ _ _ _ => pe_op op_sub (pe_callB call_abs (by rfl) mA (by decide +kernel) (pa_cons (pv 2) pa_nil)) (pe_op op_pow pe_int pe_int)))
      (pss_one (ps_ret (pe_disp (pps_cons pe_str (pv 1) (pps_cons pe_str pe_int (pps_cons pe_str
        (pe_lc (own := [("grain", 2)]) (g := gName 2) rfl nd (pi_list (pv 0)) (blkOk_by (N := ["script", "large", "grain"]) (sc := defScope sBegun) (by decide +kernel))
          (fun _ _ _ _ _ => pg_name (i := 2) nd rfl (Or.inl rfl)) (fun _ _ _ _ _ => pts_nil) (fun _ _ _ _ _ => pe_callB call_abs (by rfl) mA (by decide +kernel) (pa_cons (pv 2) pa_nil)))
        (pps_cons pe_str pe_int pps_nil)))) (by rfl) (by rfl) (fun z => by cases z) (by decide)))), ?_⟩
    -- large = [..]
    refine ⟨_, rfl, a, rfl, ⟨_, hS⟩, fun l nl => ?_⟩
    have sL : Same H (upd H l (.lst [])) := fun b o e => by rw [upd_ne (ne_of_none e nl)]; exact e
    refine lc_list (K := K) (a := a) (xs := ns.map V.int) (fun i H' => Same H H' ∧ ∃ ls : List Int, H' l = some (.lst (ls.map V.int)) ∧ ls.length ≤ i)
      ⟨sL, [], upd_same, Nat.le_refl _⟩ (fun i H' _ ⟨s1, _⟩ => s1.seq hS) ?_ ?_
    · rintro i x H' hx ⟨s1, ls, e1, h1⟩
      obtain ⟨z, rfl, hi⟩ := len_take_map hx
      refine ⟨rfl, ?_⟩
      refine ⟨_, rfl, z, rfl, 10, 18, rfl, rfl, ⟨by decide, by decide, by decide⟩, _, _, rfl, rfl, _, rfl, ?_⟩
      refine ite2 (fun _ => ?_) (fun _ => ?_)
      · refine ⟨_, rfl, z, rfl, 10, 18, rfl, rfl, ⟨by decide, by decide, by decide⟩, _, _, rfl, rfl, _, e1, small1000 (by rw [List.length_map]; omega), ?_⟩
        refine ⟨fun b o e => ?_, ls ++ [_], by rw [upd_same, List.map_append]; rfl, by rw [List.length_append, List.length_singleton]; omega⟩
        rw [upd_ne (ne_of_none e nl)]
        exact s1 b o e
      · exact ⟨s1, ls, e1, by omega⟩
    · rintro H1 ⟨s1, ls, e1, h1⟩
      rw [List.length_map] at h1
      -- return {..}
      intro d nd1
      have ndl : d ≠ l := fun z => by rw [z, e1] at nd1; cases nd1
      have s2 : Same H1 (upd H1 d (.dK [])) := fun b o e => by rw [upd_ne (ne_of_none e nd1)]; exact e
      refine ⟨_, rfl, _, rfl, a, rfl, ⟨_, s2.seq (s1.seq hS)⟩, fun c nc => ?_⟩
      have ncd : c ≠ d := fun z => by rw [z, upd_same] at nc; cases nc
      have nc1 : H1 c = none := by rw [upd_ne ncd] at nc; exact nc
      have ncl : l ≠ c := fun z => by rw [← z, e1] at nc1; cases nc1
      refine lc_list (K := K) (a := a) (xs := ns.map V.int) (fun i H' => Same (upd H1 d (.dK [])) H' ∧ ∃ cs : List Int, H' c = some (.lst (cs.map V.int)) ∧ cs.length ≤ i)
        ⟨fun b o e => by rw [upd_ne (ne_of_none e nc)]; exact e, [], upd_same, Nat.le_refl _⟩ (fun i H' _ ⟨s3, _⟩ => s3.seq (s2.seq (s1.seq hS))) ?_ ?_
      · rintro i x H' hx ⟨s3, cs, e3, h3⟩
        obtain ⟨z, rfl, hi⟩ := len_take_map hx
        refine ⟨rfl, ?_⟩
        refine ⟨_, rfl, z, rfl, _, e3, small1000 (by rw [List.length_map]; omega), ?_⟩
        refine ⟨fun b o e => ?_, cs ++ [_], by rw [upd_same, List.map_append]; rfl, by rw [List.length_append, List.length_singleton]; omega⟩
        rw [upd_ne (ne_of_none e nc)]
        exact s3 b o e
      · rintro H2 ⟨s3, cs, e3, h3⟩
        rw [List.length_map] at h3
        have ed : H2 d = some (.dK []) := s3 d _ upd_same
        have el : H2 l = some (.lst (ls.map V.int)) := s3 l _ (by rw [upd_ne ndl.symm]; exact e1)
        refine ⟨ed, dkv l c 0 0, rfl, (by show 4 ≤ 15; decide), ?_⟩
        rw [merged_eq]
        refine k d l c _ (fun b o e => ?_) (s1.free nd1) nl (s1.free nc1) ⟨ndl, ncd.symm, ncl, 0, 0, ls, cs, upd_same, by rw [upd_ne ndl.symm]; exact el, by rw [upd_ne ncd]; exact e3, by omega, by omega⟩
        have e' := s3 b o (s2 b o (s1 b o e))
        rw [upd_ne (ne_of_none (s1 b o e) nd1)]
        exact e'

section
variable {H : Hp} {d l c : Addr} {r t : Int}
theorem get_large (ed : H d = some (.dK (dkv l c r t))) : DGet H d (.str "large") (some (.ref l)) := by
  have q := DGet.k (k := (Sum.inr "large" : Key)) ed
  rw [v_large] at q
  exact q
theorem get_rest (ed : H d = some (.dK (dkv l c r t))) : DGet H d (.str "rest") (some (.int r)) := by
  have q := DGet.k (k := (Sum.inr "rest" : Key)) ed
  rw [v_rest] at q
  exact q
theorem get_cells (ed : H d = some (.dK (dkv l c r t))) : DGet H d (.str "cells") (some (.ref c)) := by
  have q := DGet.k (k := (Sum.inr "cells" : Key)) ed
  rw [v_cells] at q
  exact q
theorem get_turn (ed : H d = some (.dK (dkv l c r t))) : DGet H d (.str "turn") (some (.int t)) := by
  have q := DGet.k (k := (Sum.inr "turn" : Key)) ed
  rw [v_turn] at q
  exact q
theorem dkv_small : (dkv l c r t).length < sizeLine := small1000 (by show 4 ≤ 1000; decide)
theorem put_rest (x : Int) (ed : H d = some (.dK (dkv l c r t))) : DPut H d (.str "rest") (.int x) (upd H d (.dK (dkv l c x t))) := by
  have q := DPut.k (k := (Sum.inr "rest" : Key)) (v := .int x) ed dkv_small
  rw [p_rest] at q
  exact q
theorem put_turn (x : Int) (ed : H d = some (.dK (dkv l c r t))) : DPut H d (.str "turn") (.int x) (upd H d (.dK (dkv l c r x))) := by
  have q := DPut.k (k := (Sum.inr "turn" : Key)) (v := .int x) ed dkv_small
  rw [p_turn] at q
  exact q
theorem DrawAt.put (D : DrawAt H d l c) (r t : Int) : DrawAt (upd H d (.dK (dkv l c r t))) d l c := by
  obtain ⟨h1, h2, h3, r0, t0, ls, cs, ed, el, ec, q⟩ := D
  exact ⟨h1, h2, h3, r, t, ls, cs, upd_same, by rw [upd_ne h1.symm]; exact el, by rw [upd_ne h2.symm]; exact ec, q⟩
theorem But.put (o : HO) : But H (upd H d o) d l := fun b u e h _ => by rw [upd_ne h]; exact e
theorem DrawAt.same {H' : Hp} (D : DrawAt H d l c) (s : Same H H') : DrawAt H' d l c := by
  obtain ⟨h1, h2, h3, r0, t0, ls, cs, ed, el, ec, q⟩ := D
  exact ⟨h1, h2, h3, r0, t0, ls, cs, s _ _ ed, s _ _ el, s _ _ ec, q⟩
theorem But.same {H1 H' : Hp} (s : Same H1 H') (q : But H H1 d l) : But H H' d l := fun b u e h h' => s _ _ (q b u e h h')
end
def greats : List V := [.int 2147483629, .int 2147483587, .int 2147483579]
theorem great_of {i : Nat} {x : V} (h : greats[i]? = some x) : ∃ g : Int, x = .int g ∧ 0 < g ∧ g < 2147483648 := by
  match i, h with
  | 0, h => exact ⟨_, (Option.some.inj h).symm, by decide, by decide⟩
  | 1, h => exact ⟨_, (Option.some.inj h).symm, by decide, by decide⟩
  | 2, h => exact ⟨_, (Option.some.inj h).symm, by decide, by decide⟩
  | n + 3, h => cases h
theorem ok_mixed {f : Addr} {fd : FuncData} (F : Fun K "_law_mixed" "_law_mixed" sMixed f fd) (mI : mg "int" = none) : FnOk P w K mg base CX0 1 f fd ["draw"] spMixed := by
  refine F.ok scMixed (fun vs H Q E h => ?_) (fun cdv A outer s H vs Q E hr h => ?_)
  · obtain ⟨d, l, c, rfl, _⟩ := h
    rfl
  · obtain ⟨d, l, c, rfl, D, k⟩ := h
    have hu := hu_of hr
    have nd := scMixed.nd
    refine ⟨_, pss_cons (ps_dput hu (pv 0) pe_str (pe_op op_add (pe_dget hu (pv 0) pe_str (fun _ _ => rfl)) pe_int) rfl)
      (pss_cons (ps_par (i := 1) (j := 2) rfl nd rfl rfl (by decide) rfl rfl (pa_cons (pe_callTy call_int1 (by rfl) mI (by decide +kernel) (pa_cons (pe_dget hu (pv 0) pe_str (fun _ _ => rfl)) pa_nil)) (pa_cons pe_int pa_nil)) (by rfl))
      (pss_cons (ps_for PassesOwn.never rfl (pi_list (pe_lst (pa_cons pe_int (pa_cons pe_int (pa_cons pe_int pa_nil))))) (pg_name (i := 3) nd rfl (Or.inl rfl))
        (pss_cons (ps_set (i := 4) nd rfl (Or.inl rfl) (pe_op op_modN (pe_op op_add (pe_op op_mul (pv 1) pe_int) (pe_op op_fdiv (pv 3) pe_int)) (pv 3)))
        (pss_cons (ps_for PassesOwn.never rfl (pi_list (pe_dget hu (pv 0) pe_str (fun _ _ => rfl))) (pg_name (i := 5) nd rfl (Or.inl rfl))
          (pss_one (ps_set (i := 4) nd rfl (Or.inl rfl) (pe_op op_modN (pe_op op_add (pe_op op_mul (pv 4) pe_int) (pe_callTy call_int1 (by rfl) mI (by decide +kernel) (pa_cons (pv 5) pa_nil))) (pv 3)))))
        (pss_one (ps_set (i := 2) nd rfl (Or.inl rfl) (pe_op op_add (pe_op op_mul (pv 2) pe_int) (pe_op op_modN (pe_op op_pow (pv 4) pe_int) (pv 3))))))))
      (pss_one (ps_ret (pv 2))))), ?_⟩
    obtain ⟨_, _, _, r, t, ls, cs, ed, el, ec, hl, hc⟩ := id D
    refine ⟨_, rfl, d, _, rfl, get_turn ed, _, _, rfl, rfl, _, rfl, d, _, rfl, put_turn _ ed, ?_⟩
    have D1 := D.put r (t + 1)
    have B1 : But H (upd H d (.dK (dkv l c r (t + 1)))) d l := But.put _
    have ed1 : (upd H d (.dK (dkv l c r (t + 1)))) d = some (.dK (dkv l c r (t + 1))) := upd_same
    have ec1 : (upd H d (.dK (dkv l c r (t + 1)))) c = some (.lst (cs.map V.int)) := by rw [upd_ne D.dc.symm]; exact ec
    generalize upd H d (.dK (dkv l c r (t + 1))) = H1 at D1 B1 ed1 ec1 ⊢
    refine ⟨_, rfl, d, _, rfl, get_turn ed1, .inl ⟨_, rfl, _, _, rfl, ?_⟩⟩
    refine ⟨by show 3 ≤ sizeLine; decide, fun q nq => ?_⟩
    have s2 : Same H1 (upd H1 q (.lst greats)) := fun b o e => by rw [upd_ne (ne_of_none e nq)]; exact e
    refine ⟨q, rfl, ⟨_, SqL.of upd_same⟩, for_list (K := K) (a := q) (xs := greats) (fun i σ H' => ∃ (f : Int) (g3 g4 g5 : Option V), σ = [some (.ref d), some (.int (t + 1)), some (.int f), g3, g4, g5] ∧ Same H1 H' ∧ H' q = some (.lst greats))
      ⟨0, none, none, none, rfl, s2, upd_same⟩ (fun i σ H' _ ⟨_, _, _, _, _, _, e⟩ => SqL.of e) ?_ ?_⟩
    · rintro i x σ H' hx ⟨f, g3, g4, g5, rfl, s3, eq⟩
      obtain ⟨g, rfl, g0, g1⟩ := great_of hx
      refine ⟨_, rfl, _, _, rfl, rfl, .inr ⟨by decide, by decide⟩, _, rfl, _, _, rfl, rfl, ⟨by decide, by decide⟩, _, _, rfl, rfl, _, rfl, _, _, rfl, rfl, (by omega), ?_⟩
      have hb0 : 0 ≤ ((t + 1) * 69621 + g / 7).fmod g := Int.fmod_nonneg_of_pos _ g0
      have hb1 : ((t + 1) * 69621 + g / 7).fmod g < g := Int.fmod_lt_of_pos _ g0
      refine ⟨_, rfl, d, _, rfl, get_cells (s3 _ _ ed1), c, rfl, ⟨_, SqL.of (s3 _ _ ec1)⟩, for_list (K := K) (a := c) (xs := cs.map V.int) (fun j σ H2 => ∃ (b : Int) (g5 : Option V), σ = [some (.ref d), some (.int (t + 1)), some (.int f), some (.int g), some (.int b), g5] ∧ 0 ≤ b ∧ b < g ∧ H2 = H')
        ⟨_, g5, rfl, hb0, hb1, rfl⟩ (fun j σ H2 _ ⟨_, _, _, _, _, e⟩ => by rw [e]; exact SqL.of (s3 _ _ ec1)) ?_ ?_⟩
      · rintro j y σ H2 hy ⟨b, g5, rfl, b0, b1, rfl⟩
        obtain ⟨z, rfl, _⟩ := len_take_map hy
        refine ⟨_, rfl, _, _, rfl, rfl, .inr ⟨by decide, by decide⟩, _, rfl, .inl ⟨_, rfl, _, _, rfl, rfl, _, rfl, _, _, rfl, rfl, (by omega), ?_⟩⟩
        exact ⟨_, _, rfl, Int.fmod_nonneg_of_pos _ g0, Int.fmod_lt_of_pos _ g0, rfl⟩
      · rintro σ H2 ⟨b, g5, rfl, b0, b1, rfl⟩
        refine ⟨_, rfl, _, _, rfl, rfl, .inr ⟨by decide, by decide⟩, _, rfl, _, _, rfl, rfl, ⟨by decide, by decide, by omega⟩, _, rfl, _, _, rfl, rfl, (by omega), _, _, rfl, rfl, ?_⟩
        exact ⟨_, _, _, _, rfl, s3, eq⟩
    · rintro σ H' ⟨f, g3, g4, g5, rfl, s3, eq⟩
      exact ⟨_, rfl, k f _ (D1.same s3) (B1.same s3)⟩
theorem depth_ints : ∀ ls : List Int, PyData.depthAll (ls.map PyData.int) = 0
  | [] => by simp [PyData.depthAll]
  | x :: xs => by rw [List.map_cons, PyData.depthAll, depth_ints xs]; simp [PyData.depth]
theorem lay_ints : ∀ ls : List Int, PyData.canLayAll0 (ls.map PyData.int) = true
  | [] => by simp [PyData.canLayAll0]
  | x :: xs => by rw [List.map_cons, PyData.canLayAll0, lay_ints xs]; simp [PyData.canLay0]
theorem shaped_ints (ls : List Int) : SeqAt.shaped (.list (ls.map PyData.int)) = true := by
  unfold SeqAt.shaped
  rw [PyData.canLay0, lay_ints, PyData.depth, depth_ints]
  rfl
theorem dp_ints {K : PySem.W.Frag} {H : Hp} : ∀ ls : List Int, DpAll K H (ls.map V.int) (ls.map PyData.int)
  | [] => .nil
  | x :: xs => .cons (.int x) (dp_ints xs)
theorem ok_take {f fM : Addr} {fd fdM : FuncData} (F : Fun K "_law_take" "_law_take" sTake f fd) (mI : mg "int" = none) (FM : Fun K "_law_mixed" "_law_mixed" sMixed fM fdM) (bM : Binds K fdM ["draw"] [])
    (mM : mg "_law_mixed" = some (.ref fM)) : FnOk P w K mg base CX0 2 f fd ["draw", "amount"] spTake := by
  have GM : FnOk P w K mg base CX0 1 fM fdM ["draw"] spMixed := ok_mixed FM mI
  refine F.ok scTake (fun vs H Q E h => ?_) (fun cdv A outer s H vs Q E hr h => ?_)
  · obtain ⟨d, l, c, m, rfl, _⟩ := h
    rfl
  · obtain ⟨d, l, c, m, rfl, m0, m1, D, k⟩ := h
    have hu := hu_of hr
    have nd := scTake.nd
    refine ⟨_, pss_cons (ps_if (pt_cmpR op_eq (pe_dget hu (pv 0) pe_str (fun _ _ => rfl)) pe_int (nomark _))
        (pss_one (ps_dput hu (pv 0) pe_str (pe_ifExp (pt_cmpR (op_neD hr.units) (pe_dget hu (pv 0) pe_str (fun _ _ => rfl)) (pe_lst pa_nil) (nomark _))
          (pe_bm PySem.F.plainAttrs_list PySem.F.slot_list_pop PySem.F.type_list_pop mt_popAt (pe_dget hu (pv 0) pe_str (fun _ _ => rfl)) (pa_cons pe_int pa_nil))
          (pe_call GM hr rfl mM FM.kp bM .nil pass0 (pa_cons (pv 0) pa_nil))) rfl)) pss_nil)
      (pss_cons (ps_set (i := 2) nd rfl (Or.inl rfl) (pe_op op_mod (pe_callTy call_int1 (by rfl) mI (by decide +kernel) (pa_cons (pe_dget hu (pv 0) pe_str (fun _ _ => rfl)) pa_nil)) (pv 1)))
      (pss_cons (ps_dput hu (pv 0) pe_str (pe_op op_fdiv (pe_callTy call_int1 (by rfl) mI (by decide +kernel) (pa_cons (pe_dget hu (pv 0) pe_str (fun _ _ => rfl)) pa_nil)) (pv 1)) rfl)
      (pss_one (ps_ret (pv 2))))), ?_⟩
    obtain ⟨_, _, _, r, t, ls, cs, ed, el, ec, hl, hc⟩ := id D
    refine ⟨_, rfl, d, _, rfl, get_rest ed, rfl, _, rfl, ?_⟩
    refine ite2 (fun _ => ?_) (fun _ => ?_)
    · refine ⟨_, rfl, d, _, rfl, get_large ed, Nat.zero_le _, fun q nq => ?_⟩
      have sq : Same H (upd H q (.lst [])) := fun b o e => by rw [upd_ne (ne_of_none e nq)]; exact e
      have Dq : DrawAt (upd H q (.lst [])) d l c := D.same sq
      have Bq : But H (upd H q (.lst [])) d l := But.same sq (But.refl _ _ _)
      have eq := sq _ _ ed
      have eql := sq _ _ el
      have ecq := sq _ _ ec
      refine ⟨.list (ls.map PyData.int), .list [], .lst (SqL.of eql) (dp_ints ls), .lst (SqL.of upd_same) .nil, shaped_ints ls, rfl, _, rfl, ?_⟩
      generalize upd H q (.lst []) = H1 at Dq Bq eq eql ecq ⊢
      cases ls with
      | nil =>
        refine iteF ?_
        refine ⟨_, rfl, d, l, c, rfl, Dq, fun n H2 D2 B2 => ?_⟩
        obtain ⟨_, _, _, r2, t2, ls2, cs2, ed2, _⟩ := id D2
        refine ⟨_, rfl, d, _, rfl, put_rest n ed2, ?_⟩
        have D1 := D2.put n t2
        have B1 : But H (upd H2 d (.dK (dkv l c n t2))) d l := (Bq.trans B2).trans (But.put _)
        have ed1 : (upd H2 d (.dK (dkv l c n t2))) d = some (.dK (dkv l c n t2)) := upd_same
        generalize upd H2 d (.dK (dkv l c n t2)) = H3 at D1 B1 ed1 ⊢
        exact ⟨_, rfl, d, _, rfl, get_rest ed1, .inl ⟨_, rfl, _, rfl, _, _, rfl, rfl, m0, _, rfl, d, _, rfl, get_rest ed1, .inl ⟨_, rfl, _, rfl, _, _, rfl, rfl, ⟨m0, by omega⟩, _, rfl, d, _, rfl, put_rest _ ed1, _, rfl, k _ _ (Int.emod_nonneg _ (by omega)) (Int.emod_lt_of_pos _ m0) (D1.put _ _) (B1.trans (But.put _))⟩⟩⟩
      | cons z zs =>
        refine iteT ?_
        refine ⟨_, rfl, d, _, rfl, get_large eq, .inl ⟨rfl, _, SqL.of eql⟩, l, _, 0, 0, .int z, rfl, rfl, eql, by decide, by decide, by simp [seqIndex?], rfl, ?_⟩
        have Dw : DrawAt (upd H1 l (.lst (zs.map V.int))) d l c := ⟨D.dl, D.dc, D.lc, r, t, zs, cs, by rw [upd_ne D.dl]; exact eq, upd_same, by rw [upd_ne D.lc.symm]; exact ecq, by simp at hl; omega, hc⟩
        have Bw : But H1 (upd H1 l (.lst (zs.map V.int))) d l := fun b o e _ h => by rw [upd_ne h]; exact e
        have edw : (upd H1 l (.lst (zs.map V.int))) d = some (.dK (dkv l c r t)) := by rw [upd_ne D.dl]; exact eq
        refine ⟨_, rfl, d, _, rfl, put_rest z edw, ?_⟩
        have D1 := Dw.put z t
        have B1 : But H (upd (upd H1 l (.lst (zs.map V.int))) d (.dK (dkv l c z t))) d l := (Bq.trans Bw).trans (But.put _)
        have ed1 : (upd (upd H1 l (.lst (zs.map V.int))) d (.dK (dkv l c z t))) d = some (.dK (dkv l c z t)) := upd_same
        exact ⟨_, rfl, d, _, rfl, get_rest ed1, .inl ⟨_, rfl, _, rfl, _, _, rfl, rfl, m0, _, rfl, d, _, rfl, get_rest ed1, .inl ⟨_, rfl, _, rfl, _, _, rfl, rfl, ⟨m0, by omega⟩, _, rfl, d, _, rfl, put_rest _ ed1, _, rfl, k _ _ (Int.emod_nonneg _ (by omega)) (Int.emod_lt_of_pos _ m0) (D1.put _ _) (B1.trans (But.put _))⟩⟩⟩
    · have D1 := D
      have B1 : But H H d l := But.refl _ _ _
      have ed1 := ed
      exact ⟨_, rfl, d, _, rfl, get_rest ed1, .inl ⟨_, rfl, _, rfl, _, _, rfl, rfl, m0, _, rfl, d, _, rfl, get_rest ed1, .inl ⟨_, rfl, _, rfl, _, _, rfl, rfl, ⟨m0, by omega⟩, _, rfl, d, _, rfl, put_rest _ ed1, _, rfl, k _ _ (Int.emod_nonneg _ (by omega)) (Int.emod_lt_of_pos _ m0) (D1.put _ _) (B1.trans (But.put _))⟩⟩⟩
theorem ok_pick {f fT : Addr} {fd fdT : FuncData} (F : Fun K "_law_pick" "_law_pick" sPick f fd) (mL : mg "len" = none) (GT : FnOk P w K mg base CX0 2 fT fdT ["draw", "amount"] spTake) (kT : PySem.W.keepIn K (.ref fT) = true)
    (bT : Binds K fdT ["draw", "amount"] []) (mT : mg "_law_take" = some (.ref fT)) : FnOk P w K mg base CX0 3 f fd ["draw", "some"] (spPick K) := by
  refine F.ok scPick (fun vs H Q E h => ?_) (fun cdv A outer s H vs Q E hr h => ?_)
  · obtain ⟨d, l, c, a, xs, rfl, _⟩ := h
    rfl
  · obtain ⟨d, l, c, a, xs, rfl, ea, ad, al, x0, x1, D, k⟩ := h
    have hu := hu_of hr
    refine ⟨_, pss_one (ps_ret (pe_ix ix_list (pv 1) (pe_call GT hr rfl mT kT bT .nil pass0 (pa_cons (pv 0) (pa_cons (pe_callB call_len_seq (by rfl) mL PySem.boot_len (pa_cons (pv 1) pa_nil)) pa_nil))) (fun _ _ => rfl))), ?_⟩
    refine ⟨_, rfl, _, rfl, _, rfl, a, _, rfl, .inl (SqL.of ea), d, l, c, _, rfl, by omega, by omega, D, fun n H' n0 n1 D' B' => ?_⟩
    have en : ((n.toNat : Nat) : Int) = n := Int.toNat_of_nonneg n0
    have hn : n.toNat < xs.length := by omega
    refine ⟨a, xs, n, xs[n.toNat], rfl, rfl, SqL.of (B' a _ ea ad al), (by have q := atI_nat (List.getElem?_eq_getElem hn); rw [en] at q; exact q), k n.toNat _ H' (List.getElem?_eq_getElem hn) D' B'⟩
end
end Dk
namespace Er
open PySem PySem.W PySem.Calls PyProof.Rows PySem.Spec PySem.HandSPX

/-! an own error: def __init__(self, pn): super().__init__(msg); self.pn = pn -/
def eArgs (pn : Str) (p1 p2 : Pos) : Arguments :=
  { posonlyargs := [], args := [{ arg := "self", annotation := none, pos := p1 }, { arg := pn, annotation := none, pos := p2 }],
    vararg := none, kwonlyargs := [], kw_defaults := [], kwarg := none, defaults := [] }
def eBody (pn msg : Str) (k0 : Nat) (q0 q1 q2 q3 q4 q5 q6 q7 q8 q9 : Pos) : List Stmt :=
  [.Expr (.Call (.Attribute (.Call (.Name "super" q0) [] [] q1) "__init__" q2) [.Constant (.str msg) k0 q3] [] q4) q5,
   .Assign [.Attribute (.Name "self" q6) pn q7] (.Name pn q8) q9]
def eScope (pn : Str) : Scope :=
  { kind := .function, names := [(PySem.Str.ofString "self", .local), (pn, .local), (PySem.Str.ofString "__class__", .free), (PySem.Str.ofString "super", .globalImplicit)],
    isGenerator := false, isCoroutine := false, more := [] }
/-- a parameter's word that meets none of the other names -/
structure PnOk (pn : Str) : Prop where
  s : (pn == ("self" : Str)) = false
  c : (pn == ("__class__" : Str)) = false
  u : (pn == ("super" : Str)) = false
  d : (pn == ("__debug__" : Str)) = false
  bp : ∀ (qual : Str) (body : List Stmt) (sc : Scope) (cl : List (Str × Addr)) (kV doc pm : Value) (an : Option Addr) (cdv ct : Value) (p1 p2 : Pos) (x : Addr) (v : Value),
    bindArgs (fnX "__init__" qual (eArgs pn p1 p2) body sc cl .none kV doc pm an cdv ct) ⟨[.ref x, v], []⟩ = pure ([("self", .ref x), (pn, v)] : List (Str × Value))
  bk : ∀ (qual : Str) (body : List Stmt) (sc : Scope) (cl : List (Str × Addr)) (kV doc pm : Value) (an : Option Addr) (cdv ct : Value) (p1 p2 : Pos) (x : Addr) (v : Value),
    bindArgs (fnX "__init__" qual (eArgs pn p1 p2) body sc cl .none kV doc pm an cdv ct) ⟨[.ref x], [(pn, v)]⟩ = pure ([("self", .ref x), (pn, v)] : List (Str × Value))
/-- what the written part says of such an error's class at C, of its __init__ at fI -/
structure ErrTxt (prog : Program) (K : Frag) (mg : Str → Option Value) (C fI : Addr) (pn : Str) : Prop where
  oex : L2.OexC K C
  iC : findIn K (.ref C) "__init__" = some (some (.ref fI))
  tI : typeIn K (.ref fI) = some (.type "function")
  noN : findIn K (.ref C) pn = some none
  fn : ∃ (oc : Value) (od : Option Addr) (kV doc pm ct : Value) (an : Option Addr) (osl : Array (Option Value)) (cc cda : Addr) (qual msg : Str) (k0 : Nat) (p1 p2 q0 q1 q2 q3 q4 q5 q6 q7 q8 q9 : Pos)
      (cl ccl : Value) (cld cdd : Option Addr) (csl ccs : Array (Option Value)) (vs : Array Value) (file : Str) (tf : Tok),
    K.lookup fI = some ⟨oc, od, .func (fnX "__init__" qual (eArgs pn p1 p2) (eBody pn msg k0 q0 q1 q2 q3 q4 q5 q6 q7 q8 q9) (eScope pn) [("__class__", cc)] .none kV doc pm an (.ref cda) ct), osl⟩ ∧
    codeIn K (.ref cda) qual = true ∧ K.lookup cc = some ⟨cl, cld, .cell (some (.ref C)), csl⟩ ∧ K.lookup cda = some ⟨ccl, cdd, .fields vs, ccs⟩ ∧ vs[2]? = some (.str file tf) ∧ ((prog.main.file : Str) == file) = true ∧ (q2.endLine == q4.line) = true
  any : nsIn K cStatics "thirdparty.any" = some none
  sup : ks_superIn K C C "__init__" = some (some (.builtin "ValueError.__init__"))
  sub : mroIn K C (.ref C) = some true
  subV : subIn K (.ref C) (.type "ValueError") = some true
  mgS : mg "super" = none
  top : (prog.main.scope.names.lookup ("super" : Str)).isSome = false
  pn : PnOk pn
theorem pn_part : PnOk "part" := ⟨by decide +kernel, by decide +kernel, by decide +kernel, by decide +kernel, by intros; rfl, by intros; rfl⟩
theorem pn_at : PnOk "at" := ⟨by decide +kernel, by decide +kernel, by decide +kernel, by decide +kernel, by intros; rfl, by intros; rfl⟩
theorem pn_number : PnOk "number" := ⟨by decide +kernel, by decide +kernel, by decide +kernel, by decide +kernel, by intros; rfl, by intros; rfl⟩
theorem pn_why : PnOk "why" := ⟨by decide +kernel, by decide +kernel, by decide +kernel, by decide +kernel, by intros; rfl, by intros; rfl⟩
theorem pn_most : PnOk "most" := ⟨by decide +kernel, by decide +kernel, by decide +kernel, by decide +kernel, by intros; rfl, by intros; rfl⟩
section
variable {prog : Program} {w : World} {A : Around} {R : Result → Shared → Prop} {s : Shared} {K : Frag} {mg : Str → Option Value} {C fI : Addr} {pn : Str} {base : Heap}
/-- what __init__ leaves of a fresh error at x -/
structure InitEnd (h h' : Heap) (x C dx t1 : Addr) (pn : Str) (v : Value) : Prop where
  keep : ∀ b o, b ≠ x → h.get? b = some o → h'.get? b = some o
  obj : h'.get? x = some (excObj C t1 (some dx) .none)
  big : h.objs.size ≤ dx
  ne : dx ≠ x
  ns : h'.Ns1 dx (fun y => if y = pn then some v else none)
theorem err_init (T : ErrTxt prog K mg C fI pn) (Md : L2.Mod K mg base) (kb : ∀ b o, base.get? b = some o → s.heap.get? b = some o) {x t0 : Addr} {v : Value} {args : Args}
    (hx : s.heap.get? x = some (excObj C t0 none .none)) (hnx : K.lookup x = none) (hroom : A.depth < recursionLimit)
    (hbind : ∀ fd : FuncData, (∃ qual body sc cl kV doc pm an cdv ct p1 p2, fd = fnX "__init__" qual (eArgs pn p1 p2) body sc cl .none kV doc pm an cdv ct) → BindsTo s fd args [("self", .ref x), (pn, v)])
    (hq : ∀ h' tk dx t1, InitEnd s.heap h' x C dx t1 pn v → R (.ok (.ret .none)) { s with heap := h', toks := tk }) :
    codeAny (model prog w) A (.call (.ref fI) args) R s := by
  obtain ⟨oc, od, kV, doc, pm, ct, an, osl, cc, cda, qual, msg, k0, p1, p2, q0, q1, q2, q3, q4, q5, q6, q7, q8, q9, cl, ccl, cld, cdd, csl, ccs, vs, file, tf, ho, hcd, hcc, hco, hvs, hfile, hline⟩ := T.fn
  have X : K.In s.heap := Md.kin.keeps kb
  have lk1 : (eScope pn).names.lookup ("self" : Str) = some .local := by simp [eScope, List.lookup]
  have lk2 : (eScope pn).names.lookup pn = some .local := by simp [eScope, List.lookup, T.pn.s]
  have nc1 : (("__class__" : Str) == pn) = false := by have := T.pn.c; simp at this ⊢; exact fun e => this e.symm
  have nc2 : (("super" : Str) == pn) = false := by have := T.pn.u; simp at this ⊢; exact fun e => this e.symm
  have lk3 : (eScope pn).names.lookup ("__class__" : Str) = some .free := by
    simp only [eScope, List.lookup, nc1, show (("__class__" : Str) == PySem.Str.ofString "self") = false by decide +kernel, beq_self_eq_true]
  have lk4 : (eScope pn).names.lookup ("super" : Str) = some .globalImplicit := by
    simp only [eScope, List.lookup, nc2, show (("super" : Str) == PySem.Str.ofString "self") = false by decide +kernel, show (("super" : Str) == PySem.Str.ofString "__class__") = false by decide +kernel, beq_self_eq_true]
  have pl : ∀ u : Value, ([("self", Value.ref x), (pn, u)] : List (Str × Value)).reverse.lookup ("self" : Str) = some (.ref x) := fun u => by
    have e : (("self" : Str) == pn) = false := by have := T.pn.s; simp at this ⊢; exact fun e => this e.symm
    simp [List.lookup, e]
  have pv : ∀ u : Value, ([("self", Value.ref x), (pn, u)] : List (Str × Value)).reverse.lookup pn = some u := fun u => by
    simp [List.lookup]
  obtain ⟨mb, hmb, hmb2⟩ := Md.blt
  obtain ⟨nm, qq, N, bs, bm, sn, sub, ab, col, dd, c0, c1, c2, c3, c5, hC, hbm⟩ := T.oex.cls
  have hcl : clsIn K C = some { name := nm, bases := bs, mro := .ref C :: bm, ns := N, qualname := qq, hasDict := true, slotNames := sn, subclasses := sub, abstract := ab, collection := col, hasDel := false } := by unfold clsIn; rw [hC] <;> rfl
  refine ks_codeAny_call_defAt (binds := [("self", .ref x), (pn, v)]) (body := eBody pn msg k0 q0 q1 q2 q3 q4 q5 q6 q7 q8 q9) hroom (X _ _ ho) rfl (Md.nolimit.keeps kb) (codeRec_of X hcd) rfl (hbind _ ⟨_, _, _, _, _, _, _, _, _, _, _, _, rfl⟩) ?_ ?_ (fun h₁ hns k₁ => ?_) rfl rfl rfl
  · intro y hy
    simp only [eScope, List.mem_cons, List.not_mem_nil, or_false] at hy
    rcases hy with rfl | rfl | rfl | rfl <;> simp
  · intro y hy
    simp only [List.mem_cons, List.not_mem_nil, or_false] at hy
    rcases hy with rfl | rfl
    · exact lk1
    · exact lk2
  have hx₁ := k₁ _ _ hx
  have X₁ : K.In h₁ := X.keeps k₁
  have kb₁ : ∀ b o, base.get? b = some o → h₁.get? b = some o := fun b o e => k₁ b o (kb b o e)
  have he : ∀ env : Env, eval (.Call (.Attribute (.Call (.Name "super" q0) [] [] q1) "__init__" q2) [.Constant (.str msg) k0 q3] [] q4) env = (do
      let ov ← attributeBase (.Call (.Name "super" q0) [] [] q1) "__init__" env (eval (.Call (.Name "super" q0) [] [] q1) env)
      standAt q2.atName
      let (f, first) ← holding [ov] (getMethod ov "__init__" (L2.plainOf (.Call (.Name "super" q0) [] [] q1) env))
      callWith q4 f first (backTo q4 (starEach [.Constant (.str msg) k0 q3] env)) []) := fun env => by
    rw [arm_eval_Call]
    exact bind_congr fun ov => bind_congr fun _ => L2.mcall_line rfl hline
  refine ks_wpAt_execs_cons (ks_wpAt_Expr_any (ks_wpAt_MethodCall (ks_wpAt_super_base lk4 lk3 (by decide +kernel) rfl (X₁ _ _ ho) rfl rfl rfl (X₁ _ _ hco) rfl hvs hfile T.top ?_) (he _)))
  refine ks_loadName_global rfl lk4 (loadGlobal_builtin (Md.glob.keeps kb₁) T.mgS (hmb.keeps kb₁) ((hmb2 _ (by decide)).trans PyProof.Rows.Boot.«super») ⟨rfl, ?_⟩)
  refine wpAny_loadName_free rfl lk3 rfl ⟨_, X₁ _ _ hcc, rfl⟩ ?_
  refine wpAny_loadName_local rfl lk1 hns (pl v) ?_
  refine ks_wpAny_isType_cls (X₁ _ _ hC) rfl ⟨rfl, ?_⟩
  refine ks_wpAny_call_super (X₁ _ _ hC) rfl hx₁ rfl (fun c e => nomatch e) (looks_mroIn X₁ T.sub) (fun h₂ e₂ k₂ => ?_)
  have X₂ : K.In h₂ := X₁.keeps k₂
  have hx₂ := k₂ _ _ hx₁
  have I₂ : InstAt h₂ x (excObj C t0 none .none) C none := ⟨hx₂, rfl, rfl, trivial⟩
  have hsup : alongIn K "__init__" (((Value.ref C :: bm).dropWhile (· != .ref C)).drop 1) = some (some (.builtin "ValueError.__init__")) := by
    have e := T.sup
    unfold ks_superIn at e
    rw [hcl] at e
    exact e
  refine kxs_getMethod kxs_ValueError e₂ (looks_opaque X₂ T.any) (l₀ := .ref C :: bm) (fun A Q E s k q => wpAny_bind ((looks_clsIn X₂ hcl) A _ E s k (wpAny_pure q))) rfl X₂ hsup (I₂.type.andThen (looks_subIn X₂ T.subV)) (ks_ne X₂ I₂ hcl) (by decide +kernel) ?_
  have mw₃ : (h₂.push (kxs_mw "ValueError.__init__" x)).get? h₂.objs.size = some (kxs_mw "ValueError.__init__" x) := Heap.get?_push_at rfl rfl
  have k₃ : ∀ b o, h₂.get? b = some o → (h₂.push (kxs_mw "ValueError.__init__" x)).get? b = some o := fun b o e => Heap.get?_push_of_some _ e
  have hx₃ := k₃ _ _ hx₂
  have hC₃ := k₃ _ _ (X₂ _ _ hC)
  generalize h₂.push (kxs_mw "ValueError.__init__" x) = h₃ at mw₃ k₃ hx₃ hC₃ ⊢
  refine kxs_callWith (i := "ValueError.__init__") (x := x) (by rfl) (evalArgs_plain ?_)
  refine Calls.spliced_cons (Calls.Constant_str (k := k0) (pos := q3) (Calls.spliced_nil ⟨mw₃, ?_⟩))
  -- the bound __init__ is called: the args are laid anew
  refine wpAny_call (codeAny_of_tree ?_)
  show wpAny _ _ (callAny (.ref h₂.objs.size) _) _ _ _
  simp only [callAny]
  refine wpAny_bind (wpAny_load mw₃ ?_)
  simp only [kxs_mw, show (Value.type "method-wrapper" == Value.type "method" || Value.type "method-wrapper" == Value.type "builtin_function_or_method" || Value.type "method-wrapper" == Value.type "method-wrapper") = true by decide, if_true]
  refine KFB.if_so (by decide) ?_
  refine wpAny_bind (check_bound_init F.excBase_ValueError.toExcCallFacts hC₃ hx₃ rfl ?_)
  refine wpAny_bind (wpAny_pure (wpAny_pure ?_))
  refine ⟨plainId_quiet F.excBase_ValueError.init.plain _, codeAny_builtin F.excBase_ValueError.initEntry ?_⟩
  refine exc_init_tree (cls := .ref C) (t0 := t0) (dv := none) (c2 := .none) (c3 := .none) (b4 := .bool false) hx₃ (by show 1 ≤ sizeLine; rw [sizeLine_eq]; omega) (fun h₄ k₄ hx₄ _ => ?_)
  -- self.pn = pn
  have xL : s.heap.objs.size ≠ x := Nat.ne_of_gt (Heap.lt_size hx)
  have k₁₄ : ∀ b o, b ≠ x → h₁.get? b = some o → h₄.get? b = some o := fun b o hb e => k₄ b o hb (k₃ b o (k₂ b o e))
  have X₄ : K.In h₄ := fun b o e => k₁₄ b o (fun z => by rw [z, hnx] at e; cases e) (X₁ b o e)
  have hns₄ : h₄.Ns s.heap.objs.size (fun y => ([("self", Value.ref x), (pn, v)] : List (Str × Value)).reverse.lookup y) := by
    obtain ⟨oL, es, ep, hL, r⟩ := hns
    exact ⟨oL, es, ep, k₁₄ _ _ xL hL, r⟩
  show _root_.PySem.wpAt _ _ _ (execs [.Assign [.Attribute (.Name "self" q6) pn q7] (.Name pn q8) q9] _) _ _ _
  refine wpAt_of_wpAny (wpAny_execs_cons (plainObj_wpAny_Assign_Attribute ?_))
  refine wpAny_Name (wpAny_loadName_local rfl lk2 hns₄ (pv v) ?_) T.pn.d
  refine wpAny_Name (wpAny_loadName_local rfl lk1 hns₄ (pl v) ?_) (by decide)
  refine set_plain X₄ (ox := excObj C h₃.objs.size none .none) (od := none) ⟨hx₄, rfl, rfl, trivial⟩ T.oex.sa ?_
  refine exc_osa X₄ hx₄ hcl (show refsVE (.ref C :: bm) = true from hbm) rfl T.noN (fun h₅ tk₅ dx k₅ dn dne hx₅ hn₅ => ?_)
  show wpAny _ _ (execs _ _) _ _ _
  have hLt : s.heap.objs.size < h₄.objs.size := hns₄.lt
  exact wpAny_execs_nil (hq h₅ tk₅ dx h₃.objs.size ⟨fun b o hb e => k₅ b o hb (k₁₄ b o hb (k₁ b o e)), hx₅, Nat.le_of_lt (Nat.lt_of_lt_of_le hLt dn), dne, hn₅⟩)
end
end Er
namespace Er
open PySem PySem.W PySem.HandSPX
section
variable {M : Model} {A : Around} {E : Value → Shared → Prop} {h : Heap} {g : Array GenState} {d : Drawn} {t : Nat} {os : OsState}
variable {nm q : Str} {C N : Addr} {bs bm bmB : List Value} {hdct : Bool} {sn : List Str} {sub : List Value} {ab : Bool} {col : Option Bool} {dd : Option Addr} {k0 k1 k2 k3 k5 : Option Value} {B newId initId : String}
/-- a class of the program over a built-in error: its __new__ is asked with keywords too -/
theorem ask_new (FB : ExcBaseFacts B newId initId bmB) (same : ∀ X : String, bm.contains (.type X) = bmB.contains (.type X)) {rest : List Value} {kw : List (Str × Value)} {Q : Unit → Shared → Prop}
    (hC : h.get? C = some (excClassObj nm q C N bs bm hdct sn sub ab col dd k0 k1 k2 k3 k5 newId)) (go : Q () ⟨h, g, d, t, os⟩) :
    wpAny M A (checkBuiltinCall newId ⟨.ref C :: rest, kw⟩) Q E ⟨h, g, d, t, os⟩ := by
  have isB : (Value.ref C :: bm).contains (.type B) = true := by rw [List.contains_cons, same, FB.hasB, Bool.or_true]
  have star := FB.noStar
  simp only [checkBuiltinCall, FB.newKind, FB.newSplit, FB.newRow]
  repeat (first
    | refine wpAny_loadPart_at hC ?_
    | (refine wpAny_isSubtype_exc hC ?_; rw [isB])
    | refine wpAny_staticBase_exc hC ?_
    | refine wpAny_madeBy_exc hC ?_
    | simp only [bne_self_eq_false, Bool.false_eq_true, if_false]
    | wp_step)
  exact go
end
section
variable {prog : Program} {w : World} {A : Around} {E : Value → Shared → Prop} {R : Result → Shared → Prop} {h : Heap} {g : Array GenState} {d : Drawn} {t : Nat} {os : OsState}
variable {nm q : Str} {C N : Addr} {bs bm bmB : List Value} {hdct : Bool} {sn : List Str} {sub : List Value} {ab : Bool} {col : Option Bool} {dd : Option Addr} {k0 k1 k2 k3 k5 : Option Value} {B newId initId : String}
/-- what its __new__ makes: the tuple of what is handed in by position, and the object -/
theorem run_new (FB : ExcBaseFacts B newId initId bmB) (same : ∀ X : String, bm.contains (.type X) = bmB.contains (.type X)) {rest : List Value} {kw : List (Str × Value)}
    (hC : h.get? C = some (excClassObj nm q C N bs bm hdct sn sub ab col dd k0 k1 k2 k3 k5 newId)) (small : rest.length ≤ sizeLine)
    (go : R (.ok (.ret (.ref (h.objs.size + 1)))) ⟨(h.push (kdv_tup rest)).push (excO C h.objs.size), g, d, t, os⟩) :
    codeAny (model prog w) A (.builtin newId ⟨.ref C :: rest, kw⟩) R ⟨h, g, d, t, os⟩ := by
  have fin := FB.ends
  have isB : (Value.ref C :: bm).contains (.type B) = true := by rw [List.contains_cons, same, FB.hasB, Bool.or_true]
  have noA : (Value.ref C :: bm).contains (.type "AttributeError") = false := by rw [List.contains_cons, same, FB.noAttr]; rfl
  have noN : (Value.ref C :: bm).contains (.type "NameError") = false := by rw [List.contains_cons, same, FB.noName]; rfl
  refine codeAny_builtinAt FB.entry ?_
  unfold Builtin.«BaseException.__new__»
  refine wpAt_bind ?_
  refine wpAt_bind (wpAt_stack fun p below => wpAt_of_wpAny ?_)
  wp_walk
  refine wpAt_of_wpAny ?_
  rw [FB.owner]
  repeat (first
    | with_reducible refine wpAny_madeHere_exc FB.canon hC ?_
    | with_reducible refine wpAny_loadPart_at hC ?_
    | (with_reducible refine wpAny_isSubtype_exc hC ?_; first | rw [isB] | rw [noA] | rw [noN])
    | wp_step)
  show R _ _
  rw [Heap.size_push]
  exact go
/-- type.__call__ on such a class with an __init__ of its own -/
theorem run_type_call (FB : ExcBaseFacts B newId initId bmB) (same : ∀ X : String, bm.contains (.type X) = bmB.contains (.type X)) {rest : List Value} {kw : List (Str × Value)} {fI : Addr} {Q : Fin → Shared → Prop}
    (hC : h.get? C = some (excClassObj nm q C N bs bm hdct sn sub ab col dd k0 k1 k2 k3 k5 newId)) (hi : Looks (model prog w) h (typeLookup (.ref C) "__init__") (some (.ref fI)))
    (hb : ∀ self, Looks (model prog w) h (bindSpecial (.ref fI) self) (.ref fI, [self])) (small : rest.length ≤ sizeLine)
    (go : codeAny (model prog w) A (.call (.ref fI) ⟨.ref (h.objs.size + 1) :: rest, kw⟩)
      (fun r s' => match r with | .ok (.ret v) => v = .none ∧ Q (.done (.ret (.ref (h.objs.size + 1)))) s' | .ok _ => False | .error e => E e s')
      ⟨(h.push (kdv_tup rest)).push (excO C h.objs.size), g, d, t, os⟩) :
    wpAny (model prog w) A (Builtin.«type.__call__» ⟨.ref C :: rest, kw⟩) Q E ⟨h, g, d, t, os⟩ := by
  repeat (first
    | with_reducible refine wpAny_loadPart_at hC ?_
    | with_reducible refine wpAny_madeBy_exc hC ?_
    | wp_step)
  refine codeAny_call_builtin_code (Code.quiet_builtin _ FB.quiet) (ask_new FB same hC (run_new FB same hC small ?_))
  have up : ∀ b o, h.get? b = some o → ((h.push (kdv_tup rest)).push (excO C h.objs.size)).get? b = some o := fun b o e =>
    Heap.get?_push_of_some _ (Heap.get?_push_of_some _ e)
  have atC := up _ _ hC
  have atE : ((h.push (kdv_tup rest)).push (excO C h.objs.size)).get? (h.objs.size + 1) = some (excO C h.objs.size) := by heap_get
  have own : (Value.ref C :: bm).contains (.ref C) = true := by simp
  have hi₁ := hi.keeps up
  have hb₁ := (hb (.ref (h.objs.size + 1))).keeps up
  show wpAny _ _ _ _ _ _
  unfold isInstance
  repeat (first
    | with_reducible refine wpAny_loadPart_at atE ?_
    | (with_reducible refine wpAny_isSubtype_exc atC ?_; rw [own])
    | wp_step)
  show wpAny _ _ (typeLookup (.ref C) _) _ _ _
  refine hi₁.at (wpAny_holding (wpAny_bind (hb₁.at ?_)))
  refine wpAny_bind (wpAny_call (codeAny_mono go fun r s' z => ?_))
  rcases r with e | (v | _ | _ | _)
  · exact z
  · exact z.elim
  · exact z.elim
  · exact z.elim
  · obtain ⟨rfl, z⟩ := z
    first
      | exact wpAny_pure (wpAny_pure z)
      | (wp_walk; exact z)
/-- C(.., k = ..): the call of such a class -/
theorem run_call (FB : ExcBaseFacts B newId initId bmB) (same : ∀ X : String, bm.contains (.type X) = bmB.contains (.type X)) {rest : List Value} {kw : List (Str × Value)} {fI : Addr}
    (hC : h.get? C = some (excClassObj nm q C N bs bm hdct sn sub ab col dd k0 k1 k2 k3 k5 newId)) (hi : Looks (model prog w) h (typeLookup (.ref C) "__init__") (some (.ref fI)))
    (hb : ∀ self, Looks (model prog w) h (bindSpecial (.ref fI) self) (.ref fI, [self])) (small : rest.length ≤ sizeLine)
    (go : codeAny (model prog w) (A.under (.builtin "type.__call__" ⟨.ref C :: rest, kw⟩)) (.call (.ref fI) ⟨.ref (h.objs.size + 1) :: rest, kw⟩) (InitBack (h.objs.size + 1) R)
      ⟨(h.push (kdv_tup rest)).push (excO C h.objs.size), g, d, t, os⟩) :
    codeAny (model prog w) A (.call (.ref C) ⟨rest, kw⟩) R ⟨h, g, d, t, os⟩ := by
  have look := tc_lookup
  have bind := tc_bind (.ref C)
  have isT : (⟨h, g, d, t, os⟩ : Shared).TypeIs (.ref C) "type" := ⟨_, hC, rfl⟩
  refine codeAny_of_tree ?_
  show wpAny _ _ (callAny (.ref C) _) _ _ _
  repeat (any_goals (first
    | assumption
    | with_reducible refine wpAny_loadPart_at hC ?_
    | wp_step))
  refine ⟨rfl, ?_⟩
  refine codeAny_call_builtin_at (Code.quiet_builtin _ (by decide +kernel)) entry_typeCall (wpAny_check_type_call_sub hC (run_type_call FB same hC hi hb small ?_))
  refine codeAny_mono go fun r s' z => ?_
  rcases r with e | (v | _ | _ | _) <;> exact z
end
end Er
namespace Er
open PySem PySem.W PySem.Calls PyProof.Rows PySem.Spec PySem.HandSPX
/-- a made error -/
structure Made (h h' : Heap) (e C d t1 : Addr) (pn : Str) (v : Value) : Prop where
  keep : ∀ b o, h.get? b = some o → h'.get? b = some o
  new : h.objs.size ≤ e
  obj : h'.get? e = some (excObj C t1 (some d) .none)
  big : h.objs.size ≤ d
  ne : d ≠ e
  ns : h'.Ns1 d (fun y => if y = pn then some v else none)
section
variable {prog : Program} {w : World} {A : Around} {R : Result → Shared → Prop} {s : Shared} {K : Frag} {mg : Str → Option Value} {C fI : Addr} {pn : Str} {base : Heap}
theorem err_made (T : ErrTxt prog K mg C fI pn) (Md : L2.Mod K mg base) (kb : ∀ b o, base.get? b = some o → s.heap.get? b = some o) (hroom : A.depth + 1 < recursionLimit) {us : List Value} {kw : List (Str × Value)} {v : Value}
    (hargs : (us = [v] ∧ kw = []) ∨ (us = [] ∧ kw = [(pn, v)])) (hq : ∀ h' tk e d t1, Made s.heap h' e C d t1 pn v → R (.ok (.ret (.ref e))) { s with heap := h', toks := tk }) :
    codeAny (model prog w) A (.call (.ref C) ⟨us, kw⟩) R s := by
  obtain ⟨nm, q, N, bs, bm, sn, sub, ab, col, dd, k0, k1, k2, k3, k5, hC, hbm⟩ := T.oex.cls
  have X : K.In s.heap := Md.kin.keeps kb
  obtain ⟨hp, g, dr, tk, os⟩ := s
  have small : us.length ≤ sizeLine := by
    rw [sizeLine_eq]
    rcases hargs with ⟨rfl, _⟩ | ⟨rfl, _⟩
    · show 1 ≤ _; omega
    · show 0 ≤ _; omega
  have up : ∀ b o, hp.get? b = some o → ((hp.push (kdv_tup us)).push (HandSPX.excO C hp.objs.size)).get? b = some o := fun b o e => Heap.get?_push_of_some _ (Heap.get?_push_of_some _ e)
  have atE : ((hp.push (kdv_tup us)).push (HandSPX.excO C hp.objs.size)).get? (hp.objs.size + 1) = some (HandSPX.excO C hp.objs.size) := by heap_get
  have hnx : K.lookup (hp.objs.size + 1) = none := by
    cases e : K.lookup (hp.objs.size + 1) with
    | none => rfl
    | some o => exact absurd (Nat.lt_of_succ_lt (Heap.lt_size (show hp.get? (hp.objs.size + 1) = some o from X _ _ e))) (Nat.lt_irrefl _)
  refine run_call F.excBase_ValueError (fun Y => HandSPX.refsVE_contains Y bm hbm) (X _ _ hC) (looks_findIn X T.iC) (fun self => bind_fn X self T.tI) small ?_
  refine err_init (v := v) (s := ⟨(hp.push (kdv_tup us)).push (HandSPX.excO C hp.objs.size), g, dr, tk, os⟩) T Md (fun b o e => up b o (kb b o e)) atE hnx ?_ ?_ fun h' tk' dx t1 Z => ?_
  · rw [L2.make_depth]
    exact hroom
  · rintro fd ⟨qual, body, sc, cl, kV, doc, pm, an, cdv, ct, p1, p2, rfl⟩
    rcases hargs with ⟨rfl, rfl⟩ | ⟨rfl, rfl⟩
    · exact BindsTo.of_eq (T.pn.bp _ _ _ _ _ _ _ _ _ _ _ _ _ _)
    · exact BindsTo.of_eq (T.pn.bk _ _ _ _ _ _ _ _ _ _ _ _ _ _)
  · have z : hp.objs.size + 1 + 1 ≤ dx := by
      have q := Z.big
      simpa only [Heap.size_push] using q
    exact ⟨rfl, hq h' tk' (hp.objs.size + 1) dx t1 ⟨fun b o e => Z.keep b o (Nat.ne_of_lt (Nat.lt_succ_of_lt (Heap.lt_size e))) (up b o e), Nat.le_succ _, Z.obj, by show hp.objs.size ≤ dx; omega, Z.ne, Z.ns⟩⟩
end
end Er
namespace L2
open PySem PySem.Spec PyProof.Rows
section
variable {X : Cx} {C fI : Addr} {pn : Str}
theorem relO_one {f : Str} {v : V} {v' : Value} (r : RelV v v') (y : Str) : RelO (List.lookup y [(f, v)]) (if y = f then some v' else none) := by
  by_cases e : y = f
  · rw [if_pos e, e]
    have q : List.lookup f [(f, v)] = some v := by simp [List.lookup]
    rw [q]
    exact r
  · rw [if_neg e]
    have b : (y == f) = false := by simpa using e
    have q : List.lookup y [(f, v)] = none := by simp [List.lookup, b]
    rw [q]
    trivial
/-- an error of the class at C stands at a, its dict at d with the one field -/
structure ErrAt (H : Hp) (C a d : Addr) (pn : Str) (v : V) : Prop where
  ob : H a = some (exo a C (some d))
  dc : H d = some (.xd [(pn, v)])
/-- the invariant behind the making of one -/
theorem made_inv {pins : List (Addr × Obj)} {σ : St} {H : Hp} {hp h' : Heap} {g : Array GenState} {dr : Drawn} {tk tk' : Nat} {os : OsState} {e d t1 : Addr} {v : V} {u : Value} (I : Inv X pins σ H ⟨hp, g, dr, tk, os⟩) (rv : RelV v u)
    (M : Er.Made hp h' e C d t1 pn u) : Inv X pins σ (upd (upd H d (.xd [(pn, v)])) e (exo e C (some d))) ⟨h', g, dr, tk', os⟩ ∧ H e = none ∧ H d = none ∧ e ≠ d := by
  obtain ⟨G, g1, g2⟩ := restrict h' fun b => decide (b ≠ e)
  have gk : ∀ b, b ≠ e → G.get? b = h'.get? b := fun b hb => g1 b (decide_eq_true hb)
  have ge : G.get? e = none := g2 e (by simp)
  have old : ∀ b o, hp.get? b = some o → G.get? b = some o := fun b o q => (gk b (Nat.ne_of_lt (Nat.lt_of_lt_of_le (Heap.lt_size q) M.new))).trans (M.keep b o q)
  have ob : ObjOk X.prog X.w (upd H d (.xd [(pn, v)])) G d (.xd [(pn, v)]) := ⟨_, M.ns.at (fun o q => (gk d M.ne).trans q), fun f => relO_one rv f⟩
  have J : Inv X pins σ (upd H d (.xd [(pn, v)])) ⟨G, g, dr, tk', os⟩ := I.laid (t' := tk') old M.big ob
  have he : H e = none := I.hok.fresh M.new
  have hd : H d = none := I.hok.fresh M.big
  have he' : (upd H d (.xd [(pn, v)])) e = none := by rw [upd_ne (Ne.symm M.ne)]; exact he
  have up : ∀ b o, G.get? b = some o → h'.get? b = some o := fun b o q => by
    by_cases hb : b = e
    · rw [hb, ge] at q; cases q
    · rw [← gk b hb]; exact q
  exact ⟨J.laidN (t' := tk') up ge he' (exo_ok M.obj), he, hd, Ne.symm M.ne⟩
/-- C(e) | C(pn = e): an own error with one field -/
def tErr (C : Addr) (pn : Str) (te : TE) : TE := fun σ H Q => te σ H fun v H1 => ∀ a d, H1 a = none → H1 d = none → a ≠ d → Q (.ref a) (upd (upd H1 d (.xd [(pn, v)])) a (exo a C (some d)))
theorem run_err {pins : List (Addr × Obj)} {σ : St} {H : Hp} {s : Shared} {Q : VK} {v : V} {u : Value} {us : List Value} {kw : List (Str × Value)} {k : Nat} (T : Er.ErrTxt X.prog X.K X.mg C fI pn) (hr : Room k X.A) (I : Inv X pins σ H s) (rv : RelV v u)
    (hargs : (us = [u] ∧ kw = []) ∨ (us = [] ∧ kw = [(pn, u)])) (h : ∀ a d, H a = none → H d = none → a ≠ d → Q (.ref a) (upd (upd H d (.xd [(pn, v)])) a (exo a C (some d)))) :
    wpAny (model X.prog X.w) X.A (call (.ref C) us kw) (EP X pins σ Q) X.xe s := by
  obtain ⟨hp, g, dr, tk, os⟩ := s
  refine wpAny_call (Er.err_made T I.ok.mod I.bk (by have := hr.dp; omega) hargs fun h' tk' e d t1 M => ?_)
  obtain ⟨J, he, hd, ne⟩ := made_inv (tk' := tk') I rv M
  exact ⟨.ref e, _, J, rfl, h e d he hd ne⟩
theorem pe_err {x : Str} {e : Expr} {te : TE} {p pos : Pos} {k : Nat} (T : Er.ErrTxt X.prog X.K X.mg C fI pn) (hr : Room k X.A) (hg : Gl X x) (hm : X.mg x = some (.ref C)) (he : PE X e te)
    (hs : starEach [e] X.env = (false, eval e X.env) :: starEach [] X.env := by rfl) (hdb : (x == ("__debug__" : Str)) = false := by decide) :
    PE X (.Call (.Name x p) [e] [] pos) (tErr C pn te) := by
  refine ⟨fun pins s σ H Q I h => ?_⟩
  refine wpAny_Call_Name_kw (ld_glob I hg hm ?_ hdb)
  refine PySem.W.callWith_K (h₀ := X.base) I.ok.mod.kin T.oex.kC ?_ hs (by rfl)
  rw [hs]
  refine Calls.spliced_cons (thn (he.run pins s σ H _ I h) fun u s1 ⟨v, H1, I1, r1, q1⟩ => ?_)
  exact Calls.spliced_nil ⟨I1.kIn, run_err T hr I1 r1 (.inl ⟨rfl, rfl⟩) q1⟩
def tErrK (C : Addr) (pn : Str) (te : TE) : TE := fun σ H Q => tCons te tNil σ H fun vs H1 => ∃ v, vs = [v] ∧ ∀ a d, H1 a = none → H1 d = none → a ≠ d → Q (.ref a) (upd (upd H1 d (.xd [(pn, v)])) a (exo a C (some d)))
theorem pe_errK {x : Str} {e : Expr} {te : TE} {p pos kp : Pos} {k : Nat} (T : Er.ErrTxt X.prog X.K X.mg C fI pn) (hr : Room k X.A) (hg : Gl X x) (hm : X.mg x = some (.ref C)) (he : PE X e te) (hdb : (x == ("__debug__" : Str)) = false := by decide) :
    PE X (.Call (.Name x p) [] [⟨some pn, e, kp⟩] pos) (tErrK C pn te) := by
  refine ⟨fun pins s σ H Q I h => ?_⟩
  refine wpAny_Call_Name_kw (ld_glob I hg hm ?_ hdb)
  refine PySem.W.callWith_KW0 (h₀ := X.base) I.ok.mod.kin T.oex.kC (by rfl) ?_ (by rfl)
  refine thn ((pk_cons he pk_nil).run pos pins s σ H _ I h) fun ws s2 ⟨zs, H2, I2, rz, v, ev, q2⟩ => ⟨I2.kIn, ?_⟩
  subst ev
  cases rz with
  | cons rv rn =>
    cases rn
    exact run_err T hr I2 rv (.inr ⟨rfl, rfl⟩) q2
end
end L2
namespace L2
open PySem PySem.Spec PyProof.Rows
/-- an error of the class at C stands at a: without, or with, a dict of its own -/
def IsErr (H : Hp) (a C : Addr) : Prop := H a = some (ExO (.ref C) a) ∨ ∃ (d : Addr) (pn : Str) (v : V), H a = some (exo a C (some d)) ∧ H d = some (.xd [(pn, v)])
section
variable {X : Cx} {pins : List (Addr × Obj)} {σ : St} {H : Hp} {s : Shared} {a C : Addr}
theorem IsErr.inst (I : Inv X pins σ H s) (e : IsErr H a C) : ∃ (ox : Obj) (od : Option Obj), PySem.W.InstAt s.heap a ox C od := by
  rcases e with e | ⟨d, pn, v, e, ed⟩
  · obtain ⟨⟨oe, vs, ho, ⟨hc, hd⟩, hv, _⟩, _, _⟩ := (show ObjOk X.prog X.w H s.heap a (ExO (.ref C) a) from I.hok a _ e)
    obtain ⟨oc, od, oda, osl⟩ := oe
    dsimp only at hc hd hv
    subst hc hd hv
    exact ⟨_, none, ho, rfl, rfl, trivial⟩
  · obtain ⟨t1, ho⟩ := exo_at I.hok e
    obtain ⟨mA, ⟨o, es, ep, h1, _⟩, _⟩ := (show ObjOk X.prog X.w H s.heap d (.xd [(pn, v)]) from I.hok d _ ed)
    exact ⟨_, some o, ho, rfl, rfl, h1⟩
/-- isinstance(e, c), e an error -/
def rIsV (K : PySem.W.Frag) : List V → Hp → VK → Prop := fun xs H Q => ∃ (a C : Addr) (c : V) (cv : Value) (b : Bool), xs = [.ref a, c] ∧ IsErr H a C ∧ ExcC K C ∧ (∀ u, RelV c u → u = cv) ∧ PySem.W.kitOne K (.ref C) cv = some b ∧ Q (.bl b) H
theorem call_isV : CallR X (.builtin "isinstance") (rIsV X.K) := by
  intro pins s σ H xs us Q I r h
  obtain ⟨a, C, c, cv, b, rfl, he, T, hcv, e, q⟩ := h
  cases r with
  | cons rx rr =>
    cases rr with
    | cons rt rr =>
      cases rr
      cases rx
      have ec := hcv _ rt
      subst ec
      obtain ⟨ox, od, J⟩ := he.inst I
      have isC : (PySem.W.clsIn X.K C).isSome = true := by
        have q := T.hd
        unfold PySem.W.hasDictIn at q
        cases z : PySem.W.clsIn X.K C with
        | none => rw [z] at q; cases q
        | some _ => rfl
      exact PySem.W.kia_one (PySem.W.kitx_exc (od := od) isC T.hg T.hk T.hs T.ha T.hn T.ht T.hm) I.kIn J e (fun z => nomatch z) fun tk => ⟨.bl b, H, I.kept (t' := tk) fun _ _ z => z, rfl, q⟩
/-- e.pn, e an error with that field -/
def tErrFld (K : PySem.W.Frag) (pn : Str) (te : TE) : TE := fun σ H Q => te σ H fun x H1 => ∃ (a C d : Addr) (v : V), x = .ref a ∧ H1 a = some (exo a C (some d)) ∧ H1 d = some (.xd [(pn, v)]) ∧ ExcC K C ∧ PySem.W.findIn K (.ref C) pn = some none ∧ Q v H1
theorem pe_errFld {e : Expr} {te : TE} {pn : Str} {pos : Pos} (he : PE X e te) (hb : attributeBase e pn X.env (eval e X.env) = eval e X.env := by rfl) : PE X (.Attribute e pn pos) (tErrFld X.K pn te) := by
  refine ⟨fun pins s σ H Q I h => ?_⟩
  refine attr_of hb (thn (he.run pins s σ H _ I h) fun u s1 hh => ?_)
  obtain ⟨x, H1, I1, rx, a, C, d, v, rfl, ea, ed, T, hno, q⟩ := hh
  obtain rfl : u = Value.ref a := rx
  obtain ⟨t1, ho⟩ := exo_at I1.hok ea
  obtain ⟨mA, hns, hr⟩ := (show ObjOk X.prog X.w H1 s1.heap d (.xd [(pn, v)]) from I1.hok d _ ed)
  obtain ⟨od, hod, hl⟩ := lookIn_ns hns
  have l : List.lookup pn [(pn, v)] = some v := by simp [List.lookup]
  obtain ⟨u, hu, ru⟩ := RelO.some_of (v := v) (o := mA pn) (by rw [← l]; exact hr pn)
  have J : PySem.W.InstAt s1.heap a ({ cls := .ref C, dict := some d, data := .fields #[.ref t1, .none, .none, .none, .bool false, .none] } : Obj) C (some od) := ⟨ho, rfl, rfl, hod⟩
  exact HandSPX.exc_get I1.kIn J T.hg T.hk T.hs (PySem.W.findObj_own T.hd hno rfl (by rw [hl, hu])) (handed_of ru) ⟨v, H1, I1.tok _, ru, q⟩
end
end L2
namespace L2
open PySem PySem.Spec PyProof.Rows
section
variable {X : Cx} {pins : List (Addr × Obj)} {σ : St} {H : Hp} {s : Shared}
/-- the value v is read as the datum d, and stands apart from sys.modules -/
def ReadsV (X : Cx) (H : Hp) (v : V) (d : PyData) : Prop := ∀ (pins : List (Addr × Obj)) (σ : St) (s : Shared) (u : Value), Inv X pins σ H s → RelV v u → ∃ as, Reads s.heap u d as ∧ sysModules ∉ as
/-- repr of a list, a tuple or a dict whose datum is known -/
def rRepr (X : Cx) : List V → Hp → VK → Prop := fun xs H Q => ∃ (a : Addr) (d : PyData), xs = [.ref a] ∧ ReadsV X H (.ref a) d ∧ d.showable = true ∧ d.depth ≤ 50 ∧ d.shown.length ≤ sizeLine ∧ Q (.str d.shown) H
theorem call_reprV (hg : X.A.guards = some []) (hu : X.A.units + 64 < cLine) : CallR X (.builtin "repr") (rRepr X) := by
  intro pins s σ H xs us Q I r h
  obtain ⟨a, d, rfl, hr, hs, hd, hz, q⟩ := h
  cases r with
  | cons rx rr =>
    cases rr
    obtain rfl := (show _ = Value.ref a from rx)
    obtain ⟨as, R, ns⟩ := hr pins σ s (.ref a) I rfl
    exact repr_of_reads' R hs (fun _ => ns) hg (by omega) (fun _ _ e => e) (fun h' u tk k => ⟨.str d.shown, H, I.kept (t' := tk) k, ⟨u, rfl⟩, q⟩) hz
/-- a list's display, with that it stands elsewhere than sys.modules -/
def tLstN (t : TA) : TE := fun σ H Q => t σ H fun xs H1 => xs.length ≤ sizeLine ∧ ∀ p, p ≠ sysModules → H1 p = none → Q (.ref p) (upd H1 p (.lst xs))
theorem pe_lstN {es : List Expr} {t : TA} {pos : Pos} (h : PA X es t) : PE X (.List es pos) (tLstN t) := by
  refine ⟨fun pins s σ H Q I hq => ?_⟩
  refine wpAny_List_spliced (thn (h.run pos pins s σ H _ I hq) fun us s1 ⟨xs, H1, I1, r, z, q⟩ => ⟨by rw [← r.length]; exact z, ?_⟩)
  have big : sysModules < s1.heap.objs.size := by
    obtain ⟨o, _, _, ho, _⟩ := I1.mod.glob
    exact Nat.lt_of_lt_of_le (Nat.lt_trans (by decide) (Heap.lt_size ho)) (Nat.le_trans I1.ok.bsz I1.sz)
  refine ⟨.ref s1.heap.objs.size, upd H1 s1.heap.objs.size (.lst xs), I1.laid (t' := s1.toks) (fun b u e => Heap.get?_push_of_some _ e) (Nat.le_refl _) ?_, rfl, q _ (Nat.ne_of_gt big) (I1.hok.fresh (Nat.le_refl _))⟩
  exact ⟨z, us, 0, r, Heap.get?_push_size _ rfl⟩
theorem ReadsV.non : ReadsV X H .non .none := fun _ _ _ u _ r => by
  obtain rfl := (show u = Value.none from r)
  exact ⟨[], .none, by simp⟩
theorem ReadsV.bl (b : Bool) : ReadsV X H (.bl b) (.bool b) := fun _ _ _ u _ r => by
  obtain rfl := (show u = Value.bool b from r)
  exact ⟨[], .bool b, by simp⟩
theorem ReadsV.int (i : Int) : ReadsV X H (.int i) (.int i) := fun _ _ _ u _ r => by
  obtain ⟨t, rfl⟩ := (show ∃ t, u = Value.int i t from r)
  exact ⟨[], .int i t, by simp⟩
theorem ReadsV.str (x : Str) : ReadsV X H (.str x) (.str x) := fun _ _ _ u _ r => by
  obtain ⟨t, rfl⟩ := (show ∃ t, u = Value.str x t from r)
  exact ⟨[], .str x t, by simp⟩
/-- a row of values and their data -/
def ReadsVs (X : Cx) (H : Hp) : List V → List PyData → Prop := Paired fun v d => ReadsV X H v d
theorem ReadsVs.all {vs : List V} {ds : List PyData} (r : ReadsVs X H vs ds) : ∀ {us : List Value}, Inv X pins σ H s → Vals vs us → ∃ as, ReadsAll s.heap us ds as ∧ sysModules ∉ as := by
  unfold ReadsVs at r
  induction r with
  | nil => intro us I q; cases q; exact ⟨[], .nil, by simp⟩
  | @cons v d vs ds h t ih =>
    intro us I q
    cases q with
    | @cons _ u _ us hu ht =>
      obtain ⟨as, r1, n1⟩ := h pins σ s u I hu
      obtain ⟨bs, r2, n2⟩ := ih I ht
      exact ⟨as ++ bs, .cons r1 r2, by simp [n1, n2]⟩
theorem ReadsV.lst {a : Addr} {vs : List V} {ds : List PyData} (na : a ≠ sysModules) (e : H a = some (.lst vs)) (r : ReadsVs X H vs ds) : ReadsV X H (.ref a) (.list ds) := fun pins σ s u I ru => by
  obtain rfl := (show u = Value.ref a from ru)
  obtain ⟨_, its, n, rv, h1⟩ := (show ObjOk X.prog X.w H s.heap a (.lst vs) from I.hok a _ e)
  obtain ⟨as, r1, n1⟩ := r.all I rv
  refine ⟨a :: as, .list h1 rfl rfl (by simpa using r1), ?_⟩
  simp [na.symm, n1]
theorem ReadsV.tup {a : Addr} {vs : List V} {ds : List PyData} (e : H a = some (.tup vs)) (r : ReadsVs X H vs ds) : ReadsV X H (.ref a) (.tuple ds) := fun pins σ s u I ru => by
  obtain rfl := (show u = Value.ref a from ru)
  obtain ⟨_, its, rv, o, h1, h2, n, h3⟩ := (show ObjOk X.prog X.w H s.heap a (.tup vs) from I.hok a _ e)
  obtain ⟨as, r1, n1⟩ := r.all I rv
  exact ⟨as, .tuple h1 h2 h3 (by simpa using r1), n1⟩
theorem ReadsV.dic0 {a : Addr} (e : H a = some (.dK [])) : ReadsV X H (.ref a) (.dict []) := fun pins σ s u I ru => by
  obtain rfl := (show u = Value.ref a from ru)
  obtain ⟨_, na, vs, rv, o, es, ep, h1, h2, h3, h4, h5, h6⟩ := (show ObjOk X.prog X.w H s.heap a (.dK []) from I.hok a _ e)
  cases rv
  generalize hes : es.toList = l at h5
  cases h5
  refine ⟨_, .dict h1 h2.1 h3 (by rw [hes]; exact .nil) (by rw [hes]; exact .nil), ?_⟩
  simp at na
  simp
  exact fun z => na z.symm
theorem ReadsV.dic1 {a : Addr} {x : Str} {v : V} {d : PyData} (e : H a = some (.dK [(.inr x, v)])) (r : ReadsV X H v d) : ReadsV X H (.ref a) (.dict [(.str x, d)]) := fun pins σ s u I ru => by
  obtain rfl := (show u = Value.ref a from ru)
  obtain ⟨_, na, vs, rv, o, es, ep, h1, h2, h3, h4, h5, h6⟩ := (show ObjOk X.prog X.w H s.heap a (.dK [(.inr x, v)]) from I.hok a _ e)
  cases rv with
  | @cons _ q _ qs hq ht =>
    cases ht
    obtain ⟨k, y⟩ := q
    obtain ⟨hk, hy⟩ := hq
    dsimp only at hk hy
    subst hk
    generalize hes : es.toList = l at h5
    cases h5 with
    | @cons en kv es' kvs' hkey hval hr =>
      cases hr
      rcases keyIs_shape (k := .inr x) (v := en.key) hkey with ⟨i, t, z, _⟩ | ⟨x', t, z, ek⟩
      · cases z
      · obtain rfl := Sum.inr.inj z
        obtain ⟨as, R, n⟩ := r pins σ s y I hy
        refine ⟨_, .dict (kvs := [(.str x, d)]) h1 h2.1 h3 (by rw [hes]; show ReadsAll _ [en.key] [.str x] _; rw [ek]; exact .cons (.str x t) .nil) (by rw [hes]; show ReadsAll _ [en.val] [d] _; rw [hval]; exact .cons R .nil), ?_⟩
        simp at na
        simp [n]
        exact fun z => na z.symm
end
end L2
namespace L2
open PySem PySem.Spec PyProof.Rows
section
variable {P : Program} {w : World} {K : PySem.W.Frag} {mg : Str → Option Value} {base : Heap}
/-- a def that runs where no repr is under way -/
structure FnOkG (P : Program) (w : World) (K : PySem.W.Frag) (mg : Str → Option Value) (base : Heap) (k : Nat) (f : Addr) (fd : FuncData) (ps : List Str) (sp : Sp) : Prop where
  run : ∀ (A : Around) (outer : List Env) (s : Shared) (H : Hp) (args : Args) (us : List Value) (vs : List V) (Q : VK) (E : XK), A.guards = some [] → Room k A →
    Env0 P w K mg base A outer s H → BindsTo s fd args (ps.zip us) → Vals vs us → sp vs H Q E → codeAny (model P w) A (.call (.ref f) args) (CR CX0 outer P w H s Q E) s
theorem Fun.okG {x qual : Str} {st : Stmt} {f : Addr} {fd : FuncData} {N ps : List Str} {k : Nat} {sp : Sp} (D : Fun K x qual st f fd) (S : FnScope N ps (defScope st)) (many : ∀ vs H Q E, sp vs H Q E → vs.length = ps.length)
    (body : ∀ (cdv : Value) (A : Around) (outer : List Env) (s : Shared) (H : Hp) (vs : List V) (Q : VK) (E : XK), A.guards = some [] → Room k (A.deeper (envOfC qual (defScope st) s.heap.objs.size f cdv)) → sp vs H Q E →
      ∃ t, PSs (cxOf CX0 P w K mg base N qual (defScope st) f cdv A outer s H E).nox (defBody st) t ∧ t { nx := fun _ H' => Q .non H', rt := Q } (start N vs) H) :
    FnOkG P w K mg base (k + 1) f fd ps sp := by
  obtain ⟨oc, od, kV, doc, pm, an, cdv, ct, osl, rfl, look, code⟩ := D.ex
  refine ⟨fun A outer s H args us vs Q E guards room env0 bind rel want => ?_⟩
  have lens := many _ _ _ _ want
  have inK : K.In s.heap := env0.mod.kin.keeps fun b o e => (env0.bs b o e).1
  have free : s.heap.NoLimit := env0.mod.nolimit.keeps fun b o e => (env0.bs b o e).1
  have kinds : ∀ y ∈ ps.zip us, (defScope st).names.lookup y.1 = some .local ∨
      ((defScope st).names.lookup y.1 = some .cell ∧ ((cellsFrom (s.heap.objs.size + 1) (defScope st).names []).lookup y.1).isSome = true) := by
    rintro ⟨n, v⟩ hy
    rcases S.par n (List.of_mem_zip hy).1 with q | q
    · exact Or.inl q
    · exact Or.inr ⟨q, PySem.W.cellsFrom_some _ _ _ (.inl q)⟩
  refine codeAny_call_function room.depth (inK _ _ look) rfl S.co S.gen rfl
    (PySem.W.codeRec_of inK code) (bind _ _ _ _ ?_)
  refine wpAny_newFunctionEnv_cells S.kind kinds fun env hEnv s1 inCall => ?_
  subst hEnv
  refine ⟨free.keeps inCall.toInCall.keep, codeAny_func ?_⟩
  obtain ⟨t, ht, hq⟩ := body cdv A outer s H vs Q E guards (room.deeper _) want
  have start0 := inv_start (CX := CX0) (P := P) (w := w) (mg := mg) (base := base) (E := E) S room.hd env0 lens rel inCall
  refine wpAny_mono (ht.nox.run [] s1 (start N vs) H _ start0 hq) (fun fl s' hs => ?_) fun e s' hs => hs
  cases fl with
  | ret u =>
    obtain ⟨v, σ', H', J, rv, q⟩ := hs
    exact ⟨v, H', J.os, J.bare, J.base, J.hok, rv, q⟩
  | next =>
    obtain ⟨σ', H', J, q⟩ := hs
    exact ⟨.non, H', J.os, J.bare, J.base, J.hok, rfl, q⟩
  | brk =>
    obtain ⟨_, _, _, q⟩ := hs
    exact q.elim
  | cont =>
    obtain ⟨_, _, _, q⟩ := hs
    exact q.elim
end
end L2
namespace L2
open PySem PySem.Spec PyProof.Rows
/-- the law's call at its entry, over an abstract heap in which the script alone may be tracked -/
theorem entry_run {P : Program} {w : World} {K : PySem.W.Frag} {mg mb : Str → Option Value} {k : Nat} {fa a : Addr} {fd : FuncData} {x : Str} {sp : Sp} {s₁ : Shared} {vs : List Value} {ns : List Int} (inK : K.In s₁.heap) (glob : s₁.heap.Ns mainGlobals mg)
    (blt : s₁.heap.Ns builtinsNs mb) (same : ∀ x : Str, x ≠ "__name__" → mb x = bootBuiltins x) (lim : s₁.heap.NoLimit) (noG : s₁.gens = #[]) (at_ : s₁.heap.get? a = some { cls := .type "list", data := .seq vs.toArray }) (areInts : IntsAre vs ns)
    (room : Room k callerA) (D : ∀ base : Heap, K.In base → base.Ns mainGlobals mg → FnOkG P w K mg base k fa fd [x] sp) (bind : ∀ (s : Shared) (u : Value), BindsTo s fd ⟨[u], []⟩ [(x, u)])
    (want : ∀ H : Hp, Only H → SqL K H a (ns.map V.int) → sp [.ref a] H (fun v _ => v = .bl true) fun _ _ _ => False)
    (H : Hp) (only : Only H) (seq : SqL K H a (ns.map V.int)) (ok : HOk P w H s₁.heap) (just : ∀ b, H b ≠ none → b = a) (out : H a ≠ none → K.lookup a = none) :
    codeAny (model P w) callerA (.call (.ref fa) ⟨[.ref a], []⟩) (fun r s' => r = .ok (.ret (.bool true)) ∧ OldK s₁.heap s'.heap ∧ s'.os = s₁.os ∧ AllBare s'.gens) s₁ := by
  have isA : ∀ {b : Addr} {u : HO}, H b = some u → b = a := fun {b u} q => just b (by rw [q]; exact fun z => nomatch z)
  have noDict : ∀ {b : Addr} {o : Obj} {es : Array DictEntry} {ep : Nat}, s₁.heap.get? b = some o → o.data = .dict es ep → H b = none := by
    intro b o es ep e d
    cases q : H b with
    | none => rfl
    | some u =>
      obtain rfl := isA q
      rw [at_] at e
      cases e
      exact absurd (show Data.seq vs.toArray _ = Data.dict es ep from d) (fun z => nomatch z)
  have ns' : ∀ {b : Addr} {m : Str → Option Value}, s₁.heap.Ns b m → (hidT s₁.heap H).Ns b m := by
    rintro b m ⟨o, es, ep, e, d, r⟩
    exact ⟨o, es, ep, hidT_get e (noDict e d), d, r⟩
  have inB : K.In (hidT s₁.heap H) := by
    intro b o e
    refine hidT_get (inK b o e) ?_
    cases q : H b with
    | none => rfl
    | some u =>
      obtain rfl := isA q
      rw [out (by rw [q]; exact fun z => nomatch z)] at e
      cases e
  obtain ⟨mc, l1, l2⟩ := lim
  have modB : Mod K mg (hidT s₁.heap H) := ⟨inB, ns' glob, ⟨mb, ns' blt, same⟩, ⟨mc, ns' l1, l2⟩⟩
  have noB : ∀ b : Addr, b ∉ frs ([] : List Env) := fun b z => by simp [frs] at z
  have env0 : Env0 P w K mg (hidT s₁.heap H) callerA [] s₁ H := ⟨rfl, modB, fun b o e => of_hidT e, Nat.le_of_eq (hidT_size _ _), trivial, fun b z => absurd z (noB b), ok, .of_eq noG⟩
  refine codeAny_mono ((D _ inB (ns' glob)).run callerA [] s₁ H ⟨[.ref a], []⟩ [.ref a] [.ref a] _ _ rfl room env0 (bind s₁ (.ref a)) (.cons rfl .nil) (want H only seq)) ?_
  intro r s' h
  cases r with
  | error e => exact False.elim h
  | ok fl =>
    cases fl with
    | next => exact False.elim h
    | brk => exact False.elim h
    | cont => exact False.elim h
    | ret u =>
      obtain ⟨v, H', os, bare, un, ok', rel, q⟩ := h
      obtain rfl := (show v = V.bl true from q)
      obtain rfl := (show u = Value.bool true from rel)
      refine ⟨rfl, OldK.of_keep fun b o e => ?_, os, bare⟩
      rcases only b with z | ⟨ob, xs, z⟩
      · exact un.keep b o e z (noB b) (by simp)
      · have e1 := (ok b _ z).1
        have e2 := (ok' b _ (un.frzs b ob _ z)).1
        rw [e] at e1
        cases e1
        exact e2
/-- the goal that k_head leaves, from a promise that is kept where no repr is under way -/
theorem walk_guard {l : PySem.W.OpenLaw} {n k : Nat} {q : Program} {loose : List Str} {XP : (Str → Option Value) → Heap → Prop} {YP : World → Heap → Prop} {d : DefRec} {K : Params → PySem.W.Frag} {sp : PySem.W.Frag → Sp} {x : Str}
    (most : l.most = some n) (small : n ≤ sizeLine) (noDf : d.params.defaults = []) (room : Room k callerA) (inK : ∀ (w : World) (h : Heap), YP w h → (K w.params).In h)
    (D : ∀ (w : World) (mg : Str → Option Value) (fa : Addr) (h : Heap), (K w.params).In h → h.Ns mainGlobals mg → mg d.name = some (.ref fa) →
      ∃ fd : FuncData, (∀ (s : Shared) (u : Value), BindsTo s fd ⟨[u], []⟩ [(x, u)]) ∧
        ∀ base : Heap, (K w.params).In base → base.Ns mainGlobals mg → FnOkG l.prog w (K w.params) mg base k fa fd [x] (sp (K w.params)))
    (want : ∀ (K : PySem.W.Frag) (H : Hp) (a : Addr) (ns : List Int), ns.length ≤ n → Only H → SqL K H a (ns.map V.int) → sp K [.ref a] H (fun v _ => v = .bl true) fun _ _ _ => False) :
    PySem.W.WalkO q loose XP YP l.row.toRowW d [] (fun f vs => PySem.call f vs) := by
  refine Att.attach_call most noDf fun w s₀ s₁ mg mb fa o pm cd doc a vs ns G Y ho hd hcd hmg hobj hints hlen hg => ?_
  have X := inK w _ Y
  obtain ⟨fd, bind, hD⟩ := D w mg fa _ X G.T.g hmg
  have leng := hints.length
  have le : ns.length ≤ sizeLine := Nat.le_trans hlen small
  have go := entry_run (P := l.prog) (w := w) X G.T.g G.T.b G.T.builtins G.T.nolimit hg hobj hints room hD bind (fun H h1 h2 => want _ H a ns hlen h1 h2)
  cases hk : (K w.params).lookup a with
  | some ob =>
    have e := X a ob hk
    rw [hobj] at e
    cases e
    refine go (fun _ => none) (fun _ => .inl rfl) (.inr ⟨_, vs.toArray, _, hk, rfl, rfl, rfl, by rw [List.size_toArray, leng]; exact le, by simpa using vals_ints hints⟩) ?_ (fun b z => absurd rfl z) fun z => absurd rfl z
    intro b u z
    cases (show (none : Option HO) = some u from z)
  | none =>
    refine go (fun b => if b = a then some (.frz { cls := .type "list", data := .seq vs.toArray } (.lst (ns.map V.int))) else none) (fun b => ?_) (.inl (.inr ⟨_, if_pos rfl⟩)) (fun b u z => ?_) (fun b z => ?_) fun _ => hk
    · by_cases hb : b = a
      · exact Or.inr ⟨_, _, if_pos hb⟩
      · exact Or.inl (if_neg hb)
    · by_cases hb : b = a
      · have z' := (if_pos hb).symm.trans z
        cases z'
        subst hb
        exact ⟨hobj, by rw [List.length_map]; exact le, vs, _, vals_ints hints, hobj⟩
      · cases (if_neg hb).symm.trans z
    · exact Classical.byContradiction fun hb => z (if_neg hb)
end L2
/-! The judging defs of kinds.py and sorts.py, over values that are read as data. -/
namespace Jd
open PySem PySem.Spec PyProof.Rows L2
def top (i : Nat) : Stmt := PySem.Challenge.pw_playsalike_k03_places_of_wrong_parts.main.body.getD i (.Pass ⟨0, 0, 0, 0⟩)
abbrev sNumber : Stmt := top 8
abbrev sWithin : Stmt := top 9
abbrev sWord : Stmt := top 10
abbrev sPair : Stmt := top 11
abbrev sPlain : Stmt := top 18
abbrev sSort : Stmt := top 19
abbrev sNames : Stmt := top 20
theorem scNumber : FnScope ["thing"] ["thing"] (defScope sNumber) := ⟨rfl, rfl, rfl, by decide +kernel, rfl, by decide +kernel, by decide +kernel⟩
theorem scWithin : FnScope ["thing", "least", "most"] ["thing", "least", "most"] (defScope sWithin) := ⟨rfl, rfl, rfl, by decide +kernel, rfl, by decide +kernel, by decide +kernel⟩
theorem scPair : FnScope ["thing"] ["thing"] (defScope sPair) := ⟨rfl, rfl, rfl, by decide +kernel, rfl, by decide +kernel, by decide +kernel⟩
theorem scPlain : FnScope ["thing"] ["thing"] (defScope sPlain) := ⟨rfl, rfl, rfl, by decide +kernel, rfl, by decide +kernel, by decide +kernel⟩
/-! ### data and their types -/
/-- a datum's type -/
def tyD : PyData → String
  | .none => "NoneType"
  | .bool _ => "bool"
  | .int _ => "int"
  | .str _ => "str"
  | .list _ => "list"
  | .tuple _ => "tuple"
  | _ => "dict"
section
variable {P : Program} {w : World} {K : PySem.W.Frag} {mg : Str → Option Value} {base : Heap} {H : Hp}
theorem sqL_ty {a : Addr} {xs : List V} (h : SqL K H a xs) : TyX K H (.ref a) (.type "list") := by
  rcases h with (h | ⟨o, h⟩) | ⟨o, _, _, h, hc, _⟩
  · exact .base (.lst h)
  · exact .base (.frz h)
  · exact .kList h hc
theorem sqT_ty {a : Addr} {xs : List V} (h : SqT K H a xs) : TyX K H (.ref a) (.type "tuple") := by
  rcases h with (h | ⟨o, h⟩) | ⟨o, _, _, h, hc, _⟩
  · exact .base (.tup h)
  · exact .fTuple h
  · exact .kTuple h hc
theorem dp_ty {v : V} {d : PyData} (h : Dp K H v d) : TyX K H v (.type (tyD d)) := by
  cases h with
  | non => exact .base .non
  | bl b => exact .base (.bl b)
  | int i => exact .base (.int i)
  | str x => exact .base (.str x)
  | lst h _ => exact sqL_ty h
  | tup h _ => exact sqT_ty h
theorem kit_str (d : PyData) : PySem.W.kitOne K (.type (tyD d)) (.type "str") = some (decide (tyD d = "str")) := by
  cases d <;> rfl
theorem kit_int (d : PyData) : PySem.W.kitOne K (.type (tyD d)) (.type "int") = some (decide (tyD d = "int" ∨ tyD d = "bool")) := by
  cases d <;> rfl
theorem kit_bool (d : PyData) : PySem.W.kitOne K (.type (tyD d)) (.type "bool") = some (decide (tyD d = "bool")) := by
  cases d <;> rfl
theorem kit_tuple (d : PyData) : PySem.W.kitOne K (.type (tyD d)) (.type "tuple") = some (decide (tyD d = "tuple")) := by
  cases d <;> rfl
theorem kit_dict (d : PyData) : PySem.W.kitOne K (.type (tyD d)) (.type "dict") = some (decide (tyD d = "dict")) := by
  cases d <;> rfl
/-- isinstance(x, T), x in the i-th slot, read as data -/
theorem isi {σ : L2.St} {Q : VK} {i : Nat} {v : V} {d : PyData} {n : String} {b : Bool} (h0 : σ[i]? = some (some v)) (hd : Dp K H v d) (kit : PySem.W.kitOne K (.type (tyD d)) (.type n) = some b) (q : Q (.bl b) H) :
    tCB (rIsi K) (tCons (tVar i) (tCons (tC (.ty n)) tNil)) σ H Q := ⟨v, h0, v, .ty n, _, _, _, rfl, .ty n, dp_ty hd, kit, q⟩
/-! ### kinds.py -/
def numD : PyData → Bool
  | .int _ => true
  | _ => false
def spNumber (K : PySem.W.Frag) : Sp := fun vs H Q _ => ∃ (v : V) (d : PyData), vs = [v] ∧ Dp K H v d ∧ Q (.bl (numD d)) H
theorem ok_number {f : Addr} {fd : FuncData} (F : Fun K "is_number" "is_number" sNumber f fd) (mI : mg "isinstance" = none) (mT : mg "int" = none) (mB : mg "bool" = none) : FnOk P w K mg base CX0 1 f fd ["thing"] (spNumber K) := by
  refine F.ok scNumber (fun vs H Q E h => ?_) (fun cdv A outer s H vs Q E hr h => ?_)
  · obtain ⟨v, d, rfl, _⟩ := h
    rfl
  · obtain ⟨v, d, rfl, hd, k⟩ := h
    refine ⟨_, pss_one (ps_ret (pe_and (pe_callB call_isi (by rfl) mI (by decide +kernel) (pa_cons (pv 0) (pa_cons (pe_bltn (v := V.ty "int") (by rfl) mT (by decide +kernel) rfl) pa_nil)))
      (pe_one (pe_not (pe_callB call_isi (by rfl) mI (by decide +kernel) (pa_cons (pv 0) (pa_cons (pe_bltn (v := V.ty "bool") (by rfl) mB (by decide +kernel) rfl) pa_nil))))))), ?_⟩
    refine isi rfl hd (kit_int d) ⟨_, rfl, ?_⟩
    cases d with
    | int n => exact isi rfl hd (kit_bool _) ⟨_, rfl, k⟩
    | bool b => exact isi rfl hd (kit_bool _) ⟨_, rfl, k⟩
    | _ => exact k
def withinD (a b : Int) : PyData → Bool
  | .int n => decide (a ≤ n) && decide (n ≤ b)
  | _ => false
def spWithin (K : PySem.W.Frag) : Sp := fun vs H Q _ => ∃ (v : V) (d : PyData) (a b : Int), vs = [v, .int a, .int b] ∧ Dp K H v d ∧ Q (.bl (withinD a b d)) H
theorem ok_within {f fN : Addr} {fd fdN : FuncData} (F : Fun K "is_within" "is_within" sWithin f fd) (GN : FnOk P w K mg base CX0 1 fN fdN ["thing"] (spNumber K)) (kN : PySem.W.keepIn K (.ref fN) = true) (bN : Binds K fdN ["thing"] []) (mN : mg "is_number" = some (.ref fN)) :
    FnOk P w K mg base CX0 2 f fd ["thing", "least", "most"] (spWithin K) := by
  refine F.ok scWithin (fun vs H Q E h => ?_) (fun cdv A outer s H vs Q E hr h => ?_)
  · obtain ⟨v, d, a, b, rfl, _⟩ := h
    rfl
  · obtain ⟨v, d, a, b, rfl, hd, k⟩ := h
    refine ⟨_, pss_one (ps_ret (pe_and (pe_call GN hr rfl mN kN bN .nil pass0 (pa_cons (pv 0) pa_nil)) (pe_one (pe_chain op_le op_le (pv 1) (pv 0) (pv 2))))), ?_⟩
    refine ⟨_, rfl, v, d, rfl, hd, _, rfl, ?_⟩
    cases d with
    | int n =>
      cases hd
      refine ⟨_, rfl, _, rfl, _, _, rfl, rfl, _, rfl, ?_⟩
      refine ite2 (fun e => ?_) (fun e => ?_)
      · refine ⟨_, rfl, _, _, rfl, rfl, ?_⟩
        have z : withinD a b (.int n) = decide (n ≤ b) := by show (decide (a ≤ n) && decide (n ≤ b)) = _; rw [e, Bool.true_and]
        rw [z] at k
        exact k
      · have z : withinD a b (.int n) = false := by
          show (decide (a ≤ n) && decide (n ≤ b)) = _
          rw [Bool.eq_false_iff.mpr e, Bool.false_and]
        rw [z] at k
        exact k
    | _ => exact k
def pairD : PyData → Bool
  | .tuple ds => ds.length == 2
  | _ => false
theorem dps_len : ∀ {vs : List V} {ds : List PyData}, DpAll K H vs ds → vs.length = ds.length
  | _, _, .nil => rfl
  | _, _, .cons _ t => congrArg (· + 1) (dps_len t)
def spPair (K : PySem.W.Frag) : Sp := fun vs H Q _ => ∃ (v : V) (d : PyData), vs = [v] ∧ Dp K H v d ∧ Q (.bl (pairD d)) H
theorem ok_pair {f : Addr} {fd : FuncData} (F : Fun K "is_pair" "is_pair" sPair f fd) (mI : mg "isinstance" = none) (mT : mg "tuple" = none) (mL : mg "len" = none) : FnOk P w K mg base CX0 1 f fd ["thing"] (spPair K) := by
  refine F.ok scPair (fun vs H Q E h => ?_) (fun cdv A outer s H vs Q E hr h => ?_)
  · obtain ⟨v, d, rfl, _⟩ := h
    rfl
  · obtain ⟨v, d, rfl, hd, k⟩ := h
    refine ⟨_, pss_one (ps_ret (pe_and (pe_callB call_isi (by rfl) mI (by decide +kernel) (pa_cons (pv 0) (pa_cons (pe_bltn (v := V.ty "tuple") (by rfl) mT (by decide +kernel) rfl) pa_nil)))
      (pe_one (pe_cmpR op_eq (pe_callB call_len_seq (by rfl) mL PySem.boot_len (pa_cons (pv 0) pa_nil)) pe_int (nomark _))))), ?_⟩
    refine isi rfl hd (kit_tuple d) ⟨_, rfl, ?_⟩
    cases d with
    | tuple ds =>
      obtain ⟨⟩ | ⟨⟩ | ⟨⟩ | ⟨⟩ | ⟨⟩ | @⟨_, xs, _, ht, ha⟩ := hd
      refine ⟨_, rfl, _, _, rfl, .inr ht, rfl, ?_⟩
      have z : pairD (.tuple ds) = decide (V.int ((xs.length : Nat) : Int) = V.int 2) := by
        show (ds.length == 2) = _
        rw [← dps_len ha, dec_int, Bool.eq_iff_iff]
        simp
        omega
      rw [z] at k
      exact k
    | _ => exact k
/-! ### sorts.py -/
def signs : Str := "abcdefghijklmnopqrstuvwxyz"
def plainVs : List V := [.str "num", .str "do", .str "box"]
def plainD : PyData → Bool
  | .str x => inV (.str x) plainVs
  | _ => false
/-- what the top has written for these defs -/
structure Top (K : PySem.W.Frag) (mg : Str → Option Value) (aP : Addr) : Prop where
  isi : mg "isinstance" = none
  len : mg "len" = none
  all : mg "all" = none
  tInt : mg "int" = none
  tBool : mg "bool" = none
  tStr : mg "str" = none
  tTup : mg "tuple" = none
  tDict : mg "dict" = none
  mP : mg "PLAIN_SORTS" = some (.ref aP)
  plain : ∀ H : Hp, SqT K H aP plainVs
  mS : ∃ t, mg "SIGNS" = some (.str signs t)
  mM : ∃ t, mg "MOST_NAMES" = some (.int 4 t)
def spPlain (K : PySem.W.Frag) : Sp := fun vs H Q _ => ∃ (v : V) (d : PyData), vs = [v] ∧ Dp K H v d ∧ Q (.bl (plainD d)) H
theorem ok_plain {f aP : Addr} {fd : FuncData} (F : Fun K "is_plain" "is_plain" sPlain f fd) (T : Top K mg aP) : FnOk P w K mg base CX0 1 f fd ["thing"] (spPlain K) := by
  refine F.ok scPlain (fun vs H Q E h => ?_) (fun cdv A outer s H vs Q E hr h => ?_)
  · obtain ⟨v, d, rfl, _⟩ := h
    rfl
  · obtain ⟨v, d, rfl, hd, k⟩ := h
    refine ⟨_, pss_one (ps_ret (pe_and (pe_callB call_isi (by rfl) T.isi (by decide +kernel) (pa_cons (pv 0) (pa_cons (pe_bltn (v := V.ty "str") (by rfl) T.tStr (by decide +kernel) rfl) pa_nil)))
      (pe_one (pe_cmpR op_in_seq (pv 0) (pe_glob (v := V.ref aP) (by rfl) T.mP rfl) (by rfl))))), ?_⟩
    refine isi rfl hd (kit_str d) ⟨_, rfl, ?_⟩
    cases d with
    | str x =>
      cases hd
      exact ⟨_, rfl, aP, _, rfl, .inr (T.plain _), rfl, rfl, k⟩
    | _ => exact k
/-- a sort, as is_sort tells it -/
def sortD : PyData → Bool
  | .tuple [.tuple ts, g] => !decide (3 < ts.length) && plainD g && ts.all plainD && (!(match g with | .str x => x == ("box" : Str) | _ => false) || ts.length == 0)
  | _ => false
theorem scSort : FnScope ["thing", "taken", "given", "sort"] ["thing"] (defScope sSort) := ⟨rfl, rfl, rfl, by decide +kernel, rfl, by decide +kernel, by decide +kernel⟩
def spSort (K : PySem.W.Frag) : Sp := fun vs H Q _ => ∃ (v : V) (d : PyData), vs = [v] ∧ Dp K H v d ∧ ∀ H', Same H H' → Q (.bl (sortD d)) H'
theorem sqT_same {H' : Hp} {a : Addr} {xs : List V} (e : Same H H') (h : SqT K H a xs) : SqT K H' a xs := by
  rcases h with (h | ⟨o, h⟩) | h
  · exact .inl (.inl (e _ _ h))
  · exact .inl (.inr ⟨o, e _ _ h⟩)
  · exact .inr h
mutual
theorem dp_same {H' : Hp} (e : Same H H') : ∀ {d : PyData} {v : V}, Dp K H v d → Dp K H' v d
  | _, _, .non => .non
  | _, _, .bl b => .bl b
  | _, _, .int i => .int i
  | _, _, .str x => .str x
  | _, _, .lst h t => .lst (e.seq h) (dps_same e t)
  | _, _, .tup h t => .tup (sqT_same e h) (dps_same e t)
theorem dps_same {H' : Hp} (e : Same H H') : ∀ {ds : List PyData} {vs : List V}, DpAll K H vs ds → DpAll K H' vs ds
  | _, _, .nil => .nil
  | _, _, .cons h t => .cons (dp_same e h) (dps_same e t)
end
theorem dps_get : ∀ {ds : List PyData} {vs : List V} {i : Nat} {v : V}, DpAll K H vs ds → vs[i]? = some v → ∃ d, ds[i]? = some d ∧ Dp K H v d
  | _, _, 0, _, .cons h _, e => by cases e; exact ⟨_, rfl, h⟩
  | _, _, i + 1, _, .cons _ t, e => dps_get (i := i) t e
theorem pair_cases (d : PyData) : (pairD d = false ∧ sortD d = false) ∨ ∃ x g, d = .tuple [x, g] := by
  cases d with
  | tuple ds =>
    match ds with
    | [] => exact .inl ⟨rfl, rfl⟩
    | [_] => exact .inl ⟨rfl, by simp [sortD]⟩
    | [x, g] => exact .inr ⟨x, g, rfl⟩
    | _ :: _ :: _ :: _ => exact .inl ⟨by simp [pairD], by simp [sortD]⟩
  | _ => exact .inl ⟨rfl, rfl⟩
theorem plain_str {g : PyData} (h : plainD g = true) : ∃ x, g = .str x := by
  cases g with
  | str x => exact ⟨x, rfl⟩
  | _ => cases h
theorem take_map_snoc {α β : Type} (f : α → β) {l : List α} {i : Nat} {x : α} (h : l[i]? = some x) : (l.take i).map f ++ [f x] = (l.take (i + 1)).map f := by
  rw [List.take_add_one, h, List.map_append]
  rfl
theorem ok_sort {f fQ fP aP : Addr} {fd fdQ fdP : FuncData} (F : Fun K "is_sort" "is_sort" sSort f fd) (T : Top K mg aP) (GQ : FnOk P w K mg base CX0 1 fQ fdQ ["thing"] (spPair K)) (kQ : PySem.W.keepIn K (.ref fQ) = true) (bQ : Binds K fdQ ["thing"] []) (mQ : mg "is_pair" = some (.ref fQ))
    (GP : FnOk P w K mg base CX0 1 fP fdP ["thing"] (spPlain K)) (kP : PySem.W.keepIn K (.ref fP) = true) (bP : Binds K fdP ["thing"] []) (mP : mg "is_plain" = some (.ref fP)) : FnOk P w K mg base CX0 2 f fd ["thing"] (spSort K) := by
  refine F.ok scSort (fun vs H Q E h => ?_) (fun cdv A outer s H vs Q E hr h => ?_)
  · obtain ⟨v, d, rfl, _⟩ := h
    rfl
  · obtain ⟨v, d, rfl, hd, k⟩ := h
    have nd := scSort.nd
    refine ⟨_, pss_cons (ps_if (pt_not (pt_val (pe_call GQ hr rfl mQ kQ bQ .nil pass0 (pa_cons (pv 0) pa_nil)))) (pss_one (ps_ret pe_bl)) pss_nil)
      (pss_cons (ps_asg (pv 0) (pg_tup (by rfl) (pgs_cons (pg_name (i := 1) nd rfl (Or.inl rfl)) (pgs_cons (pg_name (i := 2) nd rfl (Or.inl rfl)) pgs_nil))))
      (pss_cons (ps_if (PW.pt (pw_or (pt_not (pt_val (pe_callB call_isi (by rfl) T.isi (by decide +kernel) (pa_cons (pv 1) (pa_cons (pe_bltn (v := V.ty "tuple") (by rfl) T.tTup (by decide +kernel) rfl) pa_nil)))))
          (pw_or1 (pt_cmpR op_gt (pe_callB call_len_seq (by rfl) T.len PySem.boot_len (pa_cons (pv 1) pa_nil)) pe_int (nomark _))))) (pss_one (ps_ret pe_bl)) pss_nil)
      (pss_cons (ps_if (PW.pt (pw_or (pt_not (pt_val (pe_call GP hr rfl mP kP bP .nil pass0 (pa_cons (pv 2) pa_nil))))
          (pw_or1 (pt_not (pt_val (pe_callB (cr_all rfl) (by rfl) T.all (by decide +kernel) (pa_cons
            (pe_lc (own := [("sort", 3)]) (g := gName 3) rfl nd (pi_tup (pv 1)) (blkOk_by (N := ["thing", "taken", "given", "sort"]) (sc := defScope sSort) (by decide +kernel)) (fun _ _ _ _ _ => pg_name (i := 3) nd rfl (Or.inl rfl)) (fun _ _ _ _ _ => pts_nil)
              (fun _ _ _ _ _ => pe_call GP hr rfl mP kP bP .nil pass0 (pa_cons (pv 3) pa_nil))) pa_nil))))))) (pss_one (ps_ret pe_bl)) pss_nil)
      (pss_one (ps_ret (pe_or (pe_cmpR op_ne (pv 2) pe_str (nomark _)) (pe_one (pe_cmpR op_eq (pe_callB call_len_seq (by rfl) T.len PySem.boot_len (pa_cons (pv 1) pa_nil)) pe_int (nomark _))))))))), ?_⟩
    refine ⟨_, rfl, v, d, rfl, hd, _, rfl, ?_⟩
    rcases pair_cases d with ⟨np, ns⟩ | ⟨x, g, rfl⟩
    · rw [np]
      refine iteT ?_
      rw [ns] at k
      exact k _ (Same.refl _)
    refine iteF ?_
    obtain ⟨⟩ | ⟨⟩ | ⟨⟩ | ⟨⟩ | ⟨⟩ | @⟨a, xs, _, ht, ha⟩ := hd
    obtain _ | @⟨vx, _, _, _, hx, ha⟩ := ha
    obtain _ | @⟨vg, _, _, _, hg, ha⟩ := ha
    cases ha
    -- taken, given = thing
    refine ⟨_, rfl, a, _, rfl, ht, rfl, ?_⟩
    refine ⟨_, _, rfl, _, _, rfl, rfl, ?_⟩
    refine isi rfl hx (kit_tuple x) ⟨_, rfl, ?_⟩
    by_cases tx : tyD x = "tuple"
    case neg =>
      rw [decide_eq_false tx]
      refine iteT ?_
      have ns : sortD (.tuple [x, g]) = false := by
        cases x with
        | tuple ts => exact absurd rfl tx
        | _ => rfl
      rw [ns] at k
      exact k _ (Same.refl _)
    obtain ⟨ts, rfl⟩ : ∃ ts, x = .tuple ts := by
      cases x with
      | tuple ts => exact ⟨ts, rfl⟩
      | _ => exact absurd tx (by simp [tyD])
    refine iteF ?_
    obtain ⟨⟩ | ⟨⟩ | ⟨⟩ | ⟨⟩ | ⟨⟩ | @⟨b, ys, _, hb, hs⟩ := hx
    refine ⟨_, rfl, b, ys, rfl, .inr hb, _, _, rfl, rfl, _, rfl, ?_⟩
    have ly := dps_len hs
    have e3 : decide ((3 : Int) < (ys.length : Nat)) = decide (3 < ts.length) := by
      rw [← ly, decide_eq_decide]
      omega
    rw [e3]
    by_cases big : 3 < ts.length
    · rw [decide_eq_true big]
      refine iteT ?_
      have ns : sortD (.tuple [.tuple ts, g]) = false := by simp [sortD, big]
      rw [ns] at k
      exact k _ (Same.refl _)
    rw [decide_eq_false big]
    refine iteF ?_
    refine ⟨_, rfl, vg, g, rfl, hg, _, rfl, ?_⟩
    by_cases pg : plainD g = true
    case neg =>
      rw [Bool.eq_false_iff.mpr pg]
      refine iteT ?_
      have ns : sortD (.tuple [.tuple ts, g]) = false := by simp [sortD, pg]
      rw [ns] at k
      exact k _ (Same.refl _)
    rw [pg]
    refine iteF ?_
    -- all([is_plain(sort) for sort in taken])
    refine ⟨_, rfl, b, rfl, ⟨_, hb⟩, fun D nD => ?_⟩
    have sD : ∀ {H' : Hp} {o : HO}, Same H H' → Same H (upd H' D o) := fun z b o e => by
      rw [upd_ne (ne_of_none e nD)]
      exact z _ _ e
    refine lc_tup (K := K) (a := b) (xs := ys) (fun i H' => Same H H' ∧ H' D = some (.lst ((ts.take i).map fun t => V.bl (plainD t)))) ⟨sD (Same.refl _), upd_same⟩ (fun i H' _ ⟨z, _⟩ => sqT_same z hb) ?_ ?_
    · rintro i y H' hy ⟨z, e1⟩
      obtain ⟨t, et, dt⟩ := dps_get hs hy
      refine ⟨rfl, ?_⟩
      refine ⟨_, rfl, y, t, rfl, dp_same z dt, _, e1, ?_, sD z, ?_⟩
      · rw [List.length_map, List.length_take]
        exact small1000 (by omega)
      · rw [upd_same, take_map_snoc (fun t => V.bl (plainD t)) et]
    · rintro H' ⟨z, e1⟩
      rw [ly, List.take_length] at e1
      refine ⟨_, ts.map plainD, rfl, SqL.of (by rw [e1, List.map_map]; rfl), _, rfl, ?_⟩
      have ea : (ts.map plainD).all id = ts.all plainD := by
        rw [List.all_map]
        rfl
      rw [ea]
      by_cases al : ts.all plainD = true
      case neg =>
        rw [Bool.eq_false_iff.mpr al]
        refine iteT ?_
        have ns : sortD (.tuple [.tuple ts, g]) = false := by
          show (_ && _ && ts.all plainD && _) = false
          rw [Bool.eq_false_iff.mpr al, Bool.and_false, Bool.false_and]
        rw [ns] at k
        exact k _ z
      rw [al]
      refine iteF ?_
      obtain ⟨x, rfl⟩ := plain_str pg
      cases hg
      have es : sortD (.tuple [.tuple ts, .str x]) = (!(x == ("box" : Str)) || ts.length == 0) := by
        show (!decide (3 < ts.length) && plainD (.str x) && ts.all plainD && _) = _
        rw [decide_eq_false big, pg, al]
        rfl
      rw [es] at k
      -- given != 'box' or len(taken) == 0
      have es0 : decide (V.str x = V.str "box") = (x == ("box" : Str)) := dec_str
      refine ⟨_, rfl, rfl, _, rfl, ?_⟩
      rw [es0]
      by_cases ex : (x == ("box" : Str)) = true
      · rw [ex] at k ⊢
        refine iteF ?_
        refine ⟨_, rfl, b, ys, rfl, .inr (sqT_same z hb), rfl, ?_⟩
        have e0 : decide (V.int ((ys.length : Nat) : Int) = V.int 0) = (ts.length == 0) := by
          rw [dec_int, ← ly, Bool.eq_iff_iff]
          simp
        rw [e0]
        exact k _ z
      · rw [Bool.eq_false_iff.mpr ex] at k ⊢
        refine iteT ?_
        exact k _ z
/-! ### words -/
def signB (c : Nat) : Bool := decide (c ∈ signs.cps.toList)
def wordD : PyData → Bool
  | .str x => decide ((1 : Int) ≤ (x.length : Nat)) && decide (((x.length : Nat) : Int) ≤ 8) && x.cps.toList.all signB
  | _ => false
theorem scWord : FnScope ["thing", "sign"] ["thing"] (defScope sWord) := ⟨rfl, rfl, rfl, by decide +kernel, rfl, by decide +kernel, by decide +kernel⟩
def spWord (K : PySem.W.Frag) : Sp := fun vs H Q _ => ∃ (v : V) (d : PyData), vs = [v] ∧ Dp K H v d ∧ (∀ x, d = .str x → x.length ≤ sizeLine) ∧ ∀ H', Same H H' → Q (.bl (wordD d)) H'
theorem ok_word {f aP : Addr} {fd : FuncData} (F : Fun K "is_word" "is_word" sWord f fd) (T : Top K mg aP) : FnOk P w K mg base CX0 1 f fd ["thing"] (spWord K) := by
  refine F.ok scWord (fun vs H Q E h => ?_) (fun cdv A outer s H vs Q E hr h => ?_)
  · obtain ⟨v, d, rfl, _⟩ := h
    rfl
  · obtain ⟨v, d, rfl, hd, hz, k⟩ := h
    have nd := scWord.nd
    obtain ⟨tS, mS⟩ := T.mS
    refine ⟨_, pss_cons (ps_if (PW.pt (pw_or (pt_not (pt_val (pe_callB call_isi (by rfl) T.isi (by decide +kernel) (pa_cons (pv 0) (pa_cons (pe_bltn (v := V.ty "str") (by rfl) T.tStr (by decide +kernel) rfl) pa_nil)))))
          (pw_or1 (pt_not (pt_chain op_le op_le pe_int (pe_callB call_len_str (by rfl) T.len PySem.boot_len (pa_cons (pv 0) pa_nil)) pe_int))))) (pss_one (ps_ret pe_bl)) pss_nil)
      (pss_one (ps_ret (pe_callB (cr_all rfl) (by rfl) T.all (by decide +kernel) (pa_cons
            (pe_lc (own := [("sign", 1)]) (g := gName 1) rfl nd (pi_str (pv 0)) (blkOk_by (N := ["thing", "sign"]) (sc := defScope sWord) (by decide +kernel)) (fun _ _ _ _ _ => pg_name (i := 1) nd rfl (Or.inl rfl)) (fun _ _ _ _ _ => pts_nil)
              (fun _ _ _ _ _ => pe_cmpR op_in_sign (pv 1) (pe_glob (v := V.str signs) (by rfl) mS ⟨tS, rfl⟩) (by rfl))) pa_nil)))), ?_⟩
    refine isi rfl hd (kit_str d) ⟨_, rfl, ?_⟩
    by_cases tx : tyD d = "str"
    case neg =>
      rw [decide_eq_false tx]
      refine iteT ?_
      have ns : wordD d = false := by
        cases d with
        | str x => exact absurd rfl tx
        | _ => rfl
      rw [ns] at k
      exact k _ (Same.refl _)
    obtain ⟨x, rfl⟩ : ∃ x, d = .str x := by
      cases d with
      | str x => exact ⟨x, rfl⟩
      | _ => exact absurd tx (by simp [tyD])
    cases hd
    refine iteF ?_
    refine ⟨_, rfl, x, rfl, hz x rfl, _, _, rfl, rfl, _, rfl, ?_⟩
    by_cases l1 : (1 : Int) ≤ (x.length : Nat)
    case neg =>
      rw [decide_eq_false l1]
      refine iteF ?_
      refine ⟨_, rfl, ?_⟩
      refine iteT ?_
      have ns : wordD (.str x) = false := by
        show (decide _ && _ && _) = false
        rw [decide_eq_false l1, Bool.false_and, Bool.false_and]
      rw [ns] at k
      exact k _ (Same.refl _)
    rw [decide_eq_true l1]
    refine iteT ?_
    refine ⟨_, _, rfl, rfl, _, rfl, ?_⟩
    by_cases l8 : ((x.length : Nat) : Int) ≤ 8
    case neg =>
      rw [decide_eq_false l8]
      refine iteT ?_
      have ns : wordD (.str x) = false := by
        show (_ && decide _ && _) = false
        rw [decide_eq_false l8, Bool.and_false, Bool.false_and]
      rw [ns] at k
      exact k _ (Same.refl _)
    rw [decide_eq_true l8]
    refine iteF ?_
    have es : wordD (.str x) = x.cps.toList.all signB := by
      show (decide _ && decide _ && _) = _
      rw [decide_eq_true l1, decide_eq_true l8]
      rfl
    rw [es] at k
    -- all([sign in SIGNS for sign in thing])
    refine ⟨_, rfl, x, rfl, fun D nD => ?_⟩
    have sD : ∀ {H' : Hp} {o : HO}, Same H H' → Same H (upd H' D o) := fun z b o e => by
      rw [upd_ne (ne_of_none e nD)]
      exact z _ _ e
    have hlen : x.cps.toList.length ≤ 8 := by
      have : x.length = x.cps.toList.length := by simp [Str.length]
      omega
    refine lc_it (walk_str (z := x)) (fun i H' => Same H H' ∧ H' D = some (.lst ((x.cps.toList.take i).map fun c => V.bl (signB c)))) ⟨sD (Same.refl _), upd_same⟩ (fun _ _ _ _ => trivial) ?_ ?_
    · rintro i y H1 H1' hi ⟨z, e1⟩ ⟨rfl, c, ec, rfl⟩
      have ec' : x.cps.toList[i]? = some c := by simpa using ec
      refine ⟨rfl, ?_⟩
      refine ⟨_, rfl, c, signs, rfl, rfl, _, e1, ?_, sD z, ?_⟩
      · rw [List.length_map, List.length_take]
        exact small1000 (by omega)
      · rw [upd_same]
        show some (HO.lst (_ ++ [V.bl (signB c)])) = _
        rw [take_map_snoc (fun c => V.bl (signB c)) ec']
    · rintro H' ⟨z, e1⟩
      have e1' : H' D = some (.lst ((x.cps.toList.map signB).map V.bl)) := by
        rw [e1, List.take_of_length_le (by simp), List.map_map]
        rfl
      refine ⟨_, x.cps.toList.map signB, rfl, SqL.of e1', ?_⟩
      have ea : (x.cps.toList.map signB).all id = x.cps.toList.all signB := by
        rw [List.all_map]
        rfl
      rw [ea]
      exact k _ z
/-! ### names -/
def keyD : Key → PyData
  | .inl i => .int i
  | .inr x => .str x
theorem key_dp {k : Key} : Dp K H (kV k) (keyD k) := by
  cases k with
  | inl i => exact .int i
  | inr x => exact .str x
/-- what may be given for names: a datum that is no dict, or a dict with keys that are numbers or texts -/
inductive NmAt (K : PySem.W.Frag) (H : Hp) : V → Option (List (Key × PyData)) → Prop
  | no {v : V} {d : PyData} (h : Dp K H v d) : NmAt K H v none
  | dct {a : Addr} {kvs : List (Key × V)} {l : List (Key × PyData)} (e : H a = some (.dK kvs)) (hk : l.map Prod.fst = kvs.map Prod.fst) (h : DpAll K H (kvs.map Prod.snd) (l.map Prod.snd)) (hz : ∀ q ∈ l, ∀ x, keyD q.1 = .str x → x.length ≤ sizeLine) : NmAt K H (.ref a) (some l)
def nameB (q : Key × PyData) : Bool := wordD (keyD q.1) && sortD q.2
def namesD : Option (List (Key × PyData)) → Bool
  | none => false
  | some l => !decide (4 < l.length) && l.all nameB
theorem dp_of {H' : Hp} (f : ∀ a xs, SqL K H a xs → SqL K H' a xs) (g : ∀ a xs, SqT K H a xs → SqT K H' a xs) : (∀ {d : PyData} {v : V}, Dp K H v d → Dp K H' v d) ∧ ∀ {ds : List PyData} {vs : List V}, DpAll K H vs ds → DpAll K H' vs ds := by
  have main : ∀ n : Nat, (∀ {d : PyData} {v : V}, sizeOf d ≤ n → Dp K H v d → Dp K H' v d) ∧ ∀ {ds : List PyData} {vs : List V}, sizeOf ds ≤ n → DpAll K H vs ds → DpAll K H' vs ds := by
    intro n
    induction n with
    | zero => exact ⟨fun {d v} h => by cases d <;> simp at h, fun {ds vs} h => by cases ds <;> simp at h⟩
    | succ n ih =>
      refine ⟨fun {d v} h q => ?_, fun {ds vs} h q => ?_⟩
      · cases q with
        | non => exact .non
        | bl b => exact .bl b
        | int i => exact .int i
        | str x => exact .str x
        | lst hs ha => exact .lst (f _ _ hs) (ih.2 (by simp at h; omega) ha)
        | tup hs ha => exact .tup (g _ _ hs) (ih.2 (by simp at h; omega) ha)
      · cases q with
        | nil => exact .nil
        | cons hd ht => exact .cons (ih.1 (by simp at h; omega) hd) (ih.2 (by simp at h; omega) ht)
  exact ⟨fun {d v} h => (main _).1 (Nat.le_refl _) h, fun {ds vs} h => (main _).2 (Nat.le_refl _) h⟩
/-- the dict at a locked: lists and tuples stand elsewhere -/
theorem dps_lock {a : Addr} {kvs : List (Key × V)} {o : HO} (e : H a = some (.dK kvs)) {ds : List PyData} {vs : List V} (h : DpAll K H vs ds) : DpAll K (upd H a o) vs ds := by
  refine (dp_of (fun b xs q => ?_) (fun b xs q => ?_)).2 h
  · rcases q with (q | ⟨u, q⟩) | q
    · exact .inl (.inl (by rw [upd_ne (ne_of q e (by intro z; cases z))]; exact q))
    · exact .inl (.inr ⟨u, by rw [upd_ne (ne_of q e (by intro z; cases z))]; exact q⟩)
    · exact .inr q
  · rcases q with (q | ⟨u, q⟩) | q
    · exact .inl (.inl (by rw [upd_ne (ne_of q e (by intro z; cases z))]; exact q))
    · exact .inl (.inr ⟨u, by rw [upd_ne (ne_of q e (by intro z; cases z))]; exact q⟩)
    · exact .inr q
theorem nm_ty {v : V} {o : Option (List (Key × PyData))} (h : NmAt K H v o) : ∃ t, TyX K H v (.type t) ∧ PySem.W.kitOne K (.type t) (.type "dict") = some o.isSome := by
  cases h with
  | @no v d h =>
    refine ⟨_, dp_ty h, ?_⟩
    cases h <;> rfl
  | dct e _ _ _ => exact ⟨"dict", .base (.dK e), rfl⟩
theorem scNames : FnScope ["thing", "word", "sort"] ["thing"] (defScope sNames) := ⟨rfl, rfl, rfl, by decide +kernel, rfl, by decide +kernel, by decide +kernel⟩
def spNames (K : PySem.W.Frag) : Sp := fun vs H Q _ => ∃ (v : V) (o : Option (List (Key × PyData))), vs = [v] ∧ NmAt K H v o ∧ ∀ H', Same H H' → Q (.bl (namesD o)) H'
theorem ok_names {f fW fS aP : Addr} {fd fdW fdS : FuncData} (F : Fun K "is_names" "is_names" sNames f fd) (T : Top K mg aP) (GW : FnOk P w K mg base CX0 1 fW fdW ["thing"] (spWord K)) (kW : PySem.W.keepIn K (.ref fW) = true) (bW : Binds K fdW ["thing"] []) (mW : mg "is_word" = some (.ref fW))
    (GS : FnOk P w K mg base CX0 2 fS fdS ["thing"] (spSort K)) (kS : PySem.W.keepIn K (.ref fS) = true) (bS : Binds K fdS ["thing"] []) (mS : mg "is_sort" = some (.ref fS)) : FnOk P w K mg base CX0 3 f fd ["thing"] (spNames K) := by
  refine F.ok scNames (fun vs H Q E h => ?_) (fun cdv A outer s H vs Q E hr h => ?_)
  · obtain ⟨v, o, rfl, _⟩ := h
    rfl
  · obtain ⟨v, o, rfl, hd, k⟩ := h
    have nd := scNames.nd
    have hr1 := hr.mono (show 1 ≤ 2 by decide)
    obtain ⟨tM, mM⟩ := T.mM
    refine ⟨_, pss_cons (ps_if (PW.pt (pw_or (pt_not (pt_val (pe_callB call_isi (by rfl) T.isi (by decide +kernel) (pa_cons (pv 0) (pa_cons (pe_bltn (v := V.ty "dict") (by rfl) T.tDict (by decide +kernel) rfl) pa_nil)))))
          (pw_or1 (pt_cmpR op_gt (pe_callB call_lenD (by rfl) T.len PySem.boot_len (pa_cons (pv 0) pa_nil)) (pe_glob (v := V.int 4) (by rfl) mM ⟨tM, rfl⟩) (nomark _))))) (pss_one (ps_ret pe_bl)) pss_nil)
      (pss_one (ps_lock (ps_ret (pe_callB (cr_all rfl) (by rfl) T.all (by decide +kernel) (pa_cons
            (pe_lc (own := [("word", 1), ("sort", 2)]) (g := gTup K 2 (gCons (gName 1) (gCons (gName 2) gNil))) rfl nd (pi_items (pv 0)) (blkOk_by (N := ["thing", "word", "sort"]) (sc := defScope sNames) (by decide +kernel))
              (fun _ _ _ _ _ => pg_tup (by rfl) (pgs_cons (pg_name (i := 1) nd rfl (Or.inl rfl)) (pgs_cons (pg_name (i := 2) nd rfl (Or.inl rfl)) pgs_nil))) (fun _ _ _ _ _ => pts_nil)
              (fun _ _ _ _ _ => pe_and (pe_call GW hr1 rfl mW kW bW .nil pass0 (pa_cons (pv 1) pa_nil)) (pe_one (pe_call GS hr rfl mS kS bS .nil pass0 (pa_cons (pv 2) pa_nil))))) pa_nil))))), ?_⟩
    obtain ⟨t, ht, hkit⟩ := nm_ty hd
    refine ⟨_, rfl, _, .ty "dict", _, _, _, rfl, .ty "dict", ht, hkit, _, rfl, ?_⟩
    cases hd with
    | no h =>
      refine iteT ?_
      exact k _ (Same.refl _)
    | @dct a kvs l e hk h hz =>
      refine iteF ?_
      have ll : kvs.length = l.length := by
        have := congrArg List.length hk
        simpa using this.symm
      refine ⟨_, rfl, a, kvs, rfl, e, _, _, rfl, rfl, _, rfl, ?_⟩
      have e4 : decide ((4 : Int) < (kvs.length : Nat)) = decide (4 < l.length) := by
        rw [ll, decide_eq_decide]
        omega
      rw [e4]
      by_cases big : 4 < l.length
      · rw [decide_eq_true big]
        refine iteT ?_
        have ns : namesD (some l) = false := by simp [namesD, big]
        rw [ns] at k
        exact k _ (Same.refl _)
      rw [decide_eq_false big]
      refine iteF ?_
      have es : namesD (some l) = l.all nameB := by
        show (!decide (4 < l.length) && _) = _
        rw [decide_eq_false big]
        rfl
      rw [es] at k
      -- all([is_word(word) and is_sort(sort) for word, sort in thing.items()])
      refine ⟨a, _, e, trivial, fun od => ?_⟩
      have hL := dps_lock (o := .frz od (.dK kvs)) e h
      have eL : (upd H a (.frz od (.dK kvs))) a = some (.frz od (.dK kvs)) := upd_same
      have back : ∀ {H' : Hp}, Same (upd H a (.frz od (.dK kvs))) H' → Same H (upd H' a (.dK kvs)) := fun {H'} z b o q => by
        by_cases ba : b = a
        · subst ba
          rw [upd_same, ← e, q]
        · rw [upd_ne ba]
          exact z _ _ (by rw [upd_ne ba]; exact q)
      generalize upd H a (.frz od (.dK kvs)) = H1 at hL eL back ⊢
      refine ⟨_, rfl, a, od, kvs, rfl, eL, fun D nD => ?_⟩
      have sD : ∀ {H' : Hp} {o : HO}, Same H1 H' → Same H1 (upd H' D o) := fun z b o e => by
        rw [upd_ne (ne_of_none e nD)]
        exact z _ _ e
      refine lc_it (walk_items (d := a) (o := od) (kvs := kvs)) (fun i H' => Same H1 H' ∧ H' D = some (.lst ((l.take i).map fun q => V.bl (nameB q)))) ⟨sD (Same.refl _), upd_same⟩ (fun i H' _ ⟨z, _⟩ => z _ _ eL) ?_ ?_
      · rintro i y H2 H2' hi ⟨z, e1⟩ ⟨N, x, yv, rfl, nN, rfl, ex, ey⟩
        obtain ⟨kv, ekv⟩ : ∃ kv, kvs[i]? = some kv := ⟨_, List.getElem?_eq_getElem hi⟩
        obtain ⟨q, eq⟩ : ∃ q, l[i]? = some q := ⟨_, List.getElem?_eq_getElem (by rw [← ll]; exact hi)⟩
        have k1 : q.1 = kv.1 := by
          have z1 : (l.map Prod.fst)[i]? = some q.1 := by rw [List.getElem?_map, eq]; rfl
          have z2 : (kvs.map Prod.fst)[i]? = some kv.1 := by rw [List.getElem?_map, ekv]; rfl
          rw [hk, z2] at z1
          exact (Option.some.inj z1).symm
        have ex : (kvs[i]?.map fun kv => kV kv.1) = some x := ex
        have ey : kvs[i]?.map Prod.snd = some yv := ey
        rw [ekv] at ex ey
        obtain rfl := Option.some.inj ex
        obtain rfl := Option.some.inj ey
        have sN : Same H1 (upd H2 N (.tup [kV kv.1, kv.2])) := fun b o e => by
          rw [upd_ne (ne_of_none (z _ _ e) nN)]
          exact z _ _ e
        have eD : (upd H2 N (.tup [kV kv.1, kv.2])) D = some (.lst ((l.take i).map fun q => V.bl (nameB q))) := by
          rw [upd_ne (ne_of_none e1 nN)]
          exact e1
        have hT : (upd H2 N (.tup [kV kv.1, kv.2])) N = some (.tup [kV kv.1, kv.2]) := upd_same
        generalize upd H2 N (.tup [kV kv.1, kv.2]) = H3 at sN eD hT ⊢
        have keep : ∀ {H4 : Hp}, Same H3 H4 → H4 D = some (.lst ((l.take i).map fun q => V.bl (nameB q))) := fun s => s _ _ eD
        have small : ((l.take i).map fun q => V.bl (nameB q)).length < sizeLine := by
          rw [List.length_map, List.length_take]
          exact small1000 (by omega)
        have step : ∀ {H4 : Hp}, Same H3 H4 → ∀ b, b = nameB q → (∃ acc, H4 D = some (.lst acc) ∧ acc.length < sizeLine ∧ Same H1 (upd H4 D (.lst (acc ++ [V.bl b]))) ∧ (upd H4 D (.lst (acc ++ [V.bl b]))) D = some (.lst ((l.take (i + 1)).map fun q => V.bl (nameB q)))) := by
          rintro H4 s b rfl
          refine ⟨_, keep s, small, sD (sN.trans s), ?_⟩
          rw [upd_same, take_map_snoc (fun q => V.bl (nameB q)) eq]
        obtain ⟨d2, ed2, hd2⟩ := dps_get hL (i := i) (v := kv.2) (by rw [List.getElem?_map, ekv]; rfl)
        have q2 : d2 = q.2 := by
          rw [List.getElem?_map, eq] at ed2
          exact (Option.some.inj ed2).symm
        subst q2
        refine ⟨N, _, rfl, SqT.of hT, rfl, _, _, rfl, _, _, rfl, rfl, ?_⟩
        refine ⟨rfl, ?_⟩
        refine ⟨_, rfl, kV kv.1, keyD kv.1, rfl, key_dp, ?_, fun H4 s4 => ⟨_, rfl, ?_⟩⟩
        · rw [← k1]
          exact hz q (List.mem_of_getElem? eq)
        have en : nameB q = (wordD (keyD kv.1) && sortD q.2) := by rw [← k1]; rfl
        by_cases wd : wordD (keyD kv.1) = true
        · rw [wd]
          refine iteT ?_
          refine ⟨_, rfl, kv.2, q.2, rfl, dp_same (sN.trans s4) hd2, fun H5 s5 => ?_⟩
          exact step (s4.trans s5) _ (by rw [en, wd]; rfl)
        · rw [Bool.eq_false_iff.mpr wd]
          refine iteF ?_
          exact step s4 _ (by rw [en, Bool.eq_false_iff.mpr wd]; rfl)
      · rintro H' ⟨z, e1⟩
        have e1' : H' D = some (.lst ((l.map nameB).map V.bl)) := by
          rw [e1, List.take_of_length_le (Nat.le_of_eq ll.symm), List.map_map]
          rfl
        refine ⟨_, l.map nameB, rfl, SqL.of e1', z _ _ eL, ?_⟩
        have ea : (l.map nameB).all id = l.all nameB := by
          rw [List.all_map]
          rfl
        rw [ea]
        exact k _ (back z)
end
end Jd
/-! An own error with one field (its class's `__init__` calls ValueError's), raised. -/
namespace L2
open PySem PySem.Spec PyProof.Rows
section
variable {X : Cx} {C fI : Addr} {pn : Str}
/-- what the making of such an error leaves, for raise -/
theorem made_mk {pins : List (Addr × Obj)} {σ : St} {H : Hp} {hp h' : Heap} {g : Array GenState} {dr : Drawn} {tk tk' : Nat} {os : OsState} {e d t1 : Addr} {v : V} {u : Value} {Q : XK} (T : Raises X (.ref C)) (I : Inv X pins σ H ⟨hp, g, dr, tk, os⟩) (rv : RelV v u)
    (M : Er.Made hp h' e C d t1 pn u) (q : Q (.ref C) (some d) (upd H d (.xd [(pn, v)]))) : MkP X pins σ Q (.ref e) ⟨h', g, dr, tk', os⟩ := by
  obtain ⟨G, g1, g2⟩ := restrict h' fun b => decide (b ≠ e)
  have gk : ∀ b, b ≠ e → G.get? b = h'.get? b := fun b hb => g1 b (decide_eq_true hb)
  have ge : G.get? e = none := g2 e (by simp)
  have old : ∀ b o, hp.get? b = some o → G.get? b = some o := fun b o z => (gk b (Nat.ne_of_lt (Nat.lt_of_lt_of_le (Heap.lt_size z) M.new))).trans (M.keep b o z)
  have ob : ObjOk X.prog X.w (upd H d (.xd [(pn, v)])) G d (.xd [(pn, v)]) := ⟨_, M.ns.at (fun o z => (gk d M.ne).trans z), fun f => relO_one rv f⟩
  have J : Inv X pins σ (upd H d (.xd [(pn, v)])) ⟨G, g, dr, tk', os⟩ := I.laid (t' := tk') old M.big ob
  refine ⟨e, _, _, ⟨G, g, dr, tk', os⟩, _, .ref C, some d, rfl, J, fun b o z => ?_, ge, M.obj, ⟨rfl, rfl⟩, rfl, rfl, ?_, rfl, I.bare, T, q⟩
  · by_cases hb : b = e
    · rw [hb, ge] at z
      cases z
    · exact (gk b hb).symm.trans z
  · rw [upd_ne (Ne.symm M.ne)]
    exact I.hok.fresh M.new
/-- raise C(e) -/
theorem pmk_err {x : Str} {e : Expr} {te : TE} {p pos : Pos} {k : Nat} (T : Er.ErrTxt X.prog X.K X.mg C fI pn) (hr : Room k X.A) (hg : Gl X x) (hm : X.mg x = some (.ref C)) (he : PE X e te)
    (hs : starEach [e] X.env = (false, eval e X.env) :: starEach [] X.env := by rfl) (hdb : (x == ("__debug__" : Str)) = false := by decide) :
    PMk X (.Call (.Name x p) [e] [] pos) (fun σ H Q => te σ H fun v H1 => ∀ d, H1 d = none → Q (.ref C) (some d) (upd H1 d (.xd [(pn, v)]))) := by
  intro pins s σ H Q I h
  refine wpAny_Call_Name_kw (ld_glob I hg hm ?_ hdb)
  refine PySem.W.callWith_K (h₀ := X.base) I.ok.mod.kin T.oex.kC ?_ hs (by rfl)
  rw [hs]
  refine Calls.spliced_cons (thn (he.run pins s σ H _ I h) fun u s1 ⟨v, H1, I1, r1, q1⟩ => ?_)
  refine Calls.spliced_nil ⟨I1.kIn, ?_⟩
  obtain ⟨hp, g, dr, tk, os⟩ := s1
  refine wpAny_call (Er.err_made T I1.ok.mod I1.bk (by have := hr.dp; omega) (.inl ⟨rfl, rfl⟩) fun h' tk' e d t1 M => ?_)
  exact made_mk (tk' := tk') (raises_own T.oex.exC T.oex.tyC) I1 r1 M (q1 d (I1.hok.fresh M.big))
end
end L2
/-! The checking defs of kinds.py and sorts.py: what they raise. -/
namespace Jd
open PySem PySem.Spec PyProof.Rows L2
abbrev sChkSize : Stmt := top 12
abbrev sChkNames : Stmt := top 21
theorem scChkSize : FnScope ["size"] ["size"] (defScope sChkSize) := ⟨rfl, rfl, rfl, by decide +kernel, rfl, by decide +kernel, by decide +kernel⟩
theorem scChkNames : FnScope ["names"] ["names"] (defScope sChkNames) := ⟨rfl, rfl, rfl, by decide +kernel, rfl, by decide +kernel, by decide +kernel⟩
/-- the errors that are raised -/
structure Errs (P : Program) (K : PySem.W.Frag) (mg : Str → Option Value) (cN fI cS : Addr) : Prop where
  mN : mg "BadNumber" = some (.ref cN)
  tN : Er.ErrTxt P K mg cN fI "part"
  mS : mg "BadSort" = some (.ref cS)
  xS : PySem.W.excIn K cS [.type "ValueError", .type "Exception", .type "BaseException", .type "object"] "ValueError.__new__" = true
  kS : PySem.W.keepIn K (.ref cS) = true
  bS : PySem.W.subIn K (.ref cS) (.type "BaseException") = some true
  tS : PySem.W.typeIn K (.ref cS) = some (.type "type")
section
variable {P : Program} {w : World} {K : PySem.W.Frag} {mg : Str → Option Value} {base : Heap} {H : Hp} {cN fI cS : Addr}
/-- check_size: nothing, or BadNumber("size") -/
def spChkSize (K : PySem.W.Frag) (cN : Addr) : Sp := fun vs H Q E => ∃ (v : V) (d : PyData), vs = [v] ∧ Dp K H v d ∧ (withinD 2 4 d = true → Q .non H) ∧ (withinD 2 4 d = false → ∀ x, H x = none → E (.ref cN) (some x) (upd H x (.xd [(("part" : Str), .str "size")])))
theorem ok_chkSize {f fW : Addr} {fd fdW : FuncData} (F : Fun K "check_size" "check_size" sChkSize f fd) (T : Errs P K mg cN fI cS) (GW : FnOk P w K mg base CX0 2 fW fdW ["thing", "least", "most"] (spWithin K)) (kW : PySem.W.keepIn K (.ref fW) = true) (bW : Binds K fdW ["thing", "least", "most"] [])
    (mW : mg "is_within" = some (.ref fW)) : FnOk P w K mg base (L2.CX P w) 3 f fd ["size"] (spChkSize K cN) := by
  refine F.okX scChkSize (fun vs H Q E h => ?_) (fun cdv A outer s H vs Q E hr h => ?_)
  · obtain ⟨v, d, rfl, _⟩ := h
    rfl
  · obtain ⟨v, d, rfl, hd, k1, k2⟩ := h
    refine ⟨_, pss_one (ps_if (pt_not (pt_val (pe_call GW hr rfl mW kW bW .nil pass0 (pa_cons (pv 0) (pa_cons pe_int (pa_cons pe_int pa_nil)))))) (pss_one (ps_raise rfl (takes_of rfl rfl rfl rfl) (pmk_err T.tN hr (by rfl) T.mN pe_str))) pss_nil), ?_⟩
    refine ⟨_, rfl, v, d, 2, 4, rfl, hd, _, rfl, ?_⟩
    by_cases e : withinD 2 4 d = true
    · rw [e]
      refine iteF ?_
      exact k1 e
    · rw [Bool.eq_false_iff.mpr e]
      refine iteT ?_
      exact k2 (Bool.eq_false_iff.mpr e)
/-- check_names: nothing, or BadSort -/
def spChkNames (K : PySem.W.Frag) (cS : Addr) : Sp := fun vs H Q E => ∃ (v : V) (o : Option (List (Key × PyData))), vs = [v] ∧ NmAt K H v o ∧ (namesD o = true → ∀ H', Same H H' → Q .non H') ∧ (namesD o = false → ∀ H', Same H H' → E (.ref cS) none H')
theorem ok_chkNames {f fM : Addr} {fd fdM : FuncData} (F : Fun K "check_names" "check_names" sChkNames f fd) (T : Errs P K mg cN fI cS) (GM : FnOk P w K mg base CX0 3 fM fdM ["thing"] (spNames K)) (kM : PySem.W.keepIn K (.ref fM) = true) (bM : Binds K fdM ["thing"] [])
    (mM : mg "is_names" = some (.ref fM)) : FnOk P w K mg base (L2.CX P w) 4 f fd ["names"] (spChkNames K cS) := by
  refine F.okX scChkNames (fun vs H Q E h => ?_) (fun cdv A outer s H vs Q E hr h => ?_)
  · obtain ⟨v, o, rfl, _⟩ := h
    rfl
  · obtain ⟨v, o, rfl, hd, k1, k2⟩ := h
    refine ⟨_, pss_one (ps_if (pt_not (pt_val (pe_call GM hr rfl mM kM bM .nil pass0 (pa_cons (pv 0) pa_nil)))) (pss_one (ps_raise rfl (takes_of rfl rfl rfl rfl) (pmk_own PySem.F.excBase_ValueError T.xS T.mS T.kS (raises_own T.bS T.tS) (by rfl)))) pss_nil), ?_⟩
    refine ⟨_, rfl, v, o, rfl, hd, fun H' s => ⟨_, rfl, ?_⟩⟩
    by_cases e : namesD o = true
    · rw [e]
      refine iteF ?_
      exact k1 e _ s
    · rw [Bool.eq_false_iff.mpr e]
      refine iteT ?_
      exact k2 (Bool.eq_false_iff.mpr e) _ s
end
end Jd
/-! The defs of shapes.py and terms.py, over values that are read as data. -/
namespace Jd
open PySem PySem.Spec PyProof.Rows L2
abbrev sPaths : Stmt := top 27
abbrev sGivenWord : Stmt := top 28
abbrev sThing : Stmt := top 41
abbrev sIsWanted : Stmt := top 43
theorem scThing : FnScope ["size", "wanted", "thing"] ["size", "wanted", "thing"] (defScope sThing) := ⟨rfl, rfl, rfl, by decide +kernel, rfl, by decide +kernel, by decide +kernel⟩
theorem scGivenWord : FnScope ["term", "number"] ["term", "number"] (defScope sGivenWord) := ⟨rfl, rfl, rfl, by decide +kernel, rfl, by decide +kernel, by decide +kernel⟩
theorem scPaths : FnScope ["term", "at"] ["term"] (defScope sPaths) := ⟨rfl, rfl, rfl, by decide +kernel, rfl, by decide +kernel, by decide +kernel⟩
section
variable {P : Program} {w : World} {K : PySem.W.Frag} {mg : Str → Option Value} {base : Heap} {H : Hp} {aP : Addr}
def endD : PyData → Bool
  | .str x => inV (.str x) [.str "num", .str "do"]
  | _ => false
/-- a thing of a term that is no term -/
def thingD (n : Int) (wd : Str) (d : PyData) : Bool := if wd = "figure" then withinD 0 (n - 1) d else if wd = "word" then wordD d else if wd = "ending" then endD d else true
def spThing (K : PySem.W.Frag) : Sp := fun vs H Q _ => ∃ (n : Int) (wd : Str) (v : V) (d : PyData), vs = [.int n, .str wd, v] ∧ Dp K H v d ∧ (∀ x, d = .str x → x.length ≤ sizeLine) ∧ ∀ H', Same H H' → Q (.bl (thingD n wd d)) H'
theorem ok_thing {f fN fW : Addr} {fd fdN fdW : FuncData} (F : Fun K "_is_thing" "_is_thing" sThing f fd) (T : Top K mg aP) (GN : FnOk P w K mg base CX0 2 fN fdN ["thing", "least", "most"] (spWithin K)) (kN : PySem.W.keepIn K (.ref fN) = true) (bN : Binds K fdN ["thing", "least", "most"] []) (mN : mg "is_within" = some (.ref fN))
    (GW : FnOk P w K mg base CX0 1 fW fdW ["thing"] (spWord K)) (kW : PySem.W.keepIn K (.ref fW) = true) (bW : Binds K fdW ["thing"] []) (mW : mg "is_word" = some (.ref fW)) : FnOk P w K mg base CX0 3 f fd ["size", "wanted", "thing"] (spThing K) := by
  refine F.ok scThing (fun vs H Q E h => ?_) (fun cdv A outer s H vs Q E hr h => ?_)
  · obtain ⟨n, wd, v, d, rfl, _⟩ := h
    rfl
  · obtain ⟨n, wd, v, d, rfl, hd, hz, k⟩ := h
    have hr1 := hr.mono (show 1 ≤ 2 by decide)
    refine ⟨_, pss_cons (ps_if (pt_cmpR op_eq (pv 1) pe_str (nomark _)) (pss_one (ps_ret (pe_call GN hr rfl mN kN bN .nil pass0 (pa_cons (pv 2) (pa_cons pe_int (pa_cons (pe_op op_sub (pv 0) pe_int) pa_nil)))))) pss_nil)
      (pss_cons (ps_if (pt_cmpR op_eq (pv 1) pe_str (nomark _)) (pss_one (ps_ret (pe_call GW hr1 rfl mW kW bW .nil pass0 (pa_cons (pv 2) pa_nil)))) pss_nil)
      (pss_cons (ps_if (pt_cmpR op_eq (pv 1) pe_str (nomark _)) (pss_one (ps_ret (pe_and (pe_callB call_isi (by rfl) T.isi (by decide +kernel) (pa_cons (pv 2) (pa_cons (pe_bltn (v := V.ty "str") (by rfl) T.tStr (by decide +kernel) rfl) pa_nil)))
        (pe_one (pe_cmpR op_in_seq (pv 2) (pe_tup (pa_cons pe_str (pa_cons pe_str pa_nil))) (by rfl)))))) pss_nil)
      (pss_one (ps_ret pe_bl)))), ?_⟩
    refine ⟨_, rfl, rfl, _, rfl, ?_⟩
    rw [dec_str]
    by_cases e1 : wd = "figure"
    · subst e1
      refine ⟨v, rfl, _, rfl, _, _, rfl, rfl, v, d, 0, n - 1, rfl, hd, ?_⟩
      exact k _ (Same.refl _)
    rw [beq_false_of_ne e1]
    refine iteF ?_
    refine ⟨_, rfl, rfl, _, rfl, ?_⟩
    rw [dec_str]
    by_cases e2 : wd = "word"
    · subst e2
      exact ⟨v, rfl, v, d, rfl, hd, hz, k⟩
    rw [beq_false_of_ne e2]
    refine iteF ?_
    refine ⟨_, rfl, rfl, _, rfl, ?_⟩
    rw [dec_str]
    by_cases e3 : wd = "ending"
    · subst e3
      refine isi rfl hd (kit_str d) ⟨_, rfl, ?_⟩
      have ek : thingD n "ending" d = endD d := rfl
      rw [ek] at k
      cases d with
      | str x =>
        cases hd
        refine ⟨_, rfl, by show 2 ≤ sizeLine; decide, fun q nq => ?_⟩
        refine ⟨q, _, rfl, .inr (SqT.of upd_same), rfl, rfl, ?_⟩
        exact k _ fun b o e => by rw [upd_ne (ne_of_none e nq)]; exact e
      | _ => exact k _ (Same.refl _)
    rw [beq_false_of_ne e3]
    refine iteF ?_
    have ek : thingD n wd d = true := by
      unfold thingD
      rw [if_neg e1, if_neg e2, if_neg e3]
    rw [ek] at k
    exact k _ (Same.refl _)
end
end Jd
/-! The defs of terms.py that look names up. -/
namespace Jd
open PySem PySem.Spec PyProof.Rows L2
abbrev sUse : Stmt := top 40
theorem scUse : FnScope ["names", "term"] ["names", "term"] (defScope sUse) := ⟨rfl, rfl, rfl, by decide +kernel, rfl, by decide +kernel, by decide +kernel⟩
/-- names: word, what it takes, what it gives -/
abbrev NmL := List (Str × (List PyData × Str))
def sortOf (q : Str × (List PyData × Str)) : PyData := .tuple [.tuple q.2.1, .str q.2.2]
/-- the dict at a holds these names -/
def NmD (K : PySem.W.Frag) (H : Hp) (a : Addr) (l : NmL) : Prop := ∃ kvs : List (Key × V), H a = some (.dK kvs) ∧ kvs.map Prod.fst = l.map (fun q => (.inr q.1 : Key)) ∧ DpAll K H (kvs.map Prod.snd) (l.map sortOf)
section
variable {P : Program} {w : World} {K : PySem.W.Frag} {mg : Str → Option Value} {base : Heap} {H : Hp} {aP : Addr}
theorem NmD.same {H' : Hp} {a : Addr} {l : NmL} (n : NmD K H a l) (s : Same H H') : NmD K H' a l := by
  obtain ⟨kvs, e, h1, h2⟩ := n
  exact ⟨kvs, s _ _ e, h1, dps_same s h2⟩
theorem val_look (x : Str) : ∀ {kvs : List (Key × V)} {l : NmL}, kvs.map Prod.fst = l.map (fun q => (.inr q.1 : Key)) → DpAll K H (kvs.map Prod.snd) (l.map sortOf) →
    (l.lookup x = none ∧ valV kvs (.inr x) = none) ∨ ∃ ts g v, l.lookup x = some (ts, g) ∧ valV kvs (.inr x) = some v ∧ Dp K H v (.tuple [.tuple ts, .str g])
  | [], [], _, _ => .inl ⟨rfl, rfl⟩
  | [], _ :: _, h, _ => by cases h
  | _ :: _, [], h, _ => by cases h
  | (k, v) :: kvs, (y, ts, g) :: l, h, d => by
    obtain ⟨h1, h2⟩ := List.cons.inj h
    have h1 : k = .inr y := h1
    subst h1
    have d : DpAll K H (v :: kvs.map Prod.snd) (sortOf (y, ts, g) :: l.map sortOf) := d
    obtain _ | ⟨d1, d2⟩ := d
    by_cases e : x = y
    · subst e
      refine .inr ⟨ts, g, v, by simp [List.lookup], by simp [valV], d1⟩
    · have b : (x == y) = false := beq_false_of_ne e
      have st : valV (((.inr y : Key), v) :: kvs) (.inr x) = valV kvs (.inr x) := by
        unfold valV
        rw [List.find?_cons, show decide ((((.inr y : Key), v) : Key × V).1 = .inr x) = false from by simp [Ne.symm e]]
      rcases val_look x h2 d2 with ⟨a1, a2⟩ | ⟨ts', g', v', a1, a2, a3⟩
      · exact .inl ⟨by simp [List.lookup, b, a1], st.trans a2⟩
      · exact .inr ⟨ts', g', v', by simp [List.lookup, b, a1], st.trans a2, a3⟩
/-- a use of a name: ("name", word, args) -/
def useD (l : NmL) : List PyData → Bool
  | [_, .str x, .tuple as] => wordD (.str x) && (match l.lookup x with | some (ts, _) => as.length == ts.length | none => false)
  | _ => false
theorem word_str {d : PyData} (h : wordD d = true) : ∃ x, d = .str x := by
  cases d with
  | str x => exact ⟨x, rfl⟩
  | _ => cases h
def spUse (K : PySem.W.Frag) : Sp := fun vs H Q _ => ∃ (a t : Addr) (l : NmL) (xs : List V) (ds : List PyData), vs = [.ref a, .ref t] ∧ NmD K H a l ∧ SqT K H t xs ∧ DpAll K H xs ds ∧ (∀ x, ds[1]? = some (.str x) → x.length ≤ sizeLine) ∧ ∀ H', Same H H' → Q (.bl (useD l ds)) H'
theorem ok_use {f fW : Addr} {fd fdW : FuncData} (F : Fun K "_is_use" "_is_use" sUse f fd) (T : Top K mg aP) (GW : FnOk P w K mg base CX0 1 fW fdW ["thing"] (spWord K)) (kW : PySem.W.keepIn K (.ref fW) = true) (bW : Binds K fdW ["thing"] []) (mW : mg "is_word" = some (.ref fW)) :
    FnOk P w K mg base CX0 2 f fd ["names", "term"] (spUse K) := by
  refine F.ok scUse (fun vs H Q E h => ?_) (fun cdv A outer s H vs Q E hr h => ?_)
  · obtain ⟨a, t, l, xs, ds, rfl, _⟩ := h
    rfl
  · obtain ⟨a, t, l, xs, ds, rfl, hn, ht, hd, hz, k⟩ := h
    have hu := hu_of hr
    refine ⟨_, pss_cons (ps_if (PW.pt (pw_or (pt_cmpR op_ne (pe_callB call_len_seq (by rfl) T.len PySem.boot_len (pa_cons (pv 1) pa_nil)) pe_int (nomark _))
        (pw_or (pt_not (pt_val (pe_call GW hr rfl mW kW bW .nil pass0 (pa_cons (pe_ix ix_tup (pv 1) pe_int (fun _ _ => rfl)) pa_nil)))) (pw_or1 (pt_cmp (pc_dnotin hu (pe_ix ix_tup (pv 1) pe_int (fun _ _ => rfl)) (pv 0))))))) (pss_one (ps_ret pe_bl)) pss_nil)
      (pss_one (ps_ret (pe_and (pe_callB call_isi (by rfl) T.isi (by decide +kernel) (pa_cons (pe_ix ix_tup (pv 1) pe_int (fun _ _ => rfl)) (pa_cons (pe_bltn (v := V.ty "tuple") (by rfl) T.tTup (by decide +kernel) rfl) pa_nil)))
        (pe_one (pe_cmpR op_eq (pe_callB call_len_seq (by rfl) T.len PySem.boot_len (pa_cons (pe_ix ix_tup (pv 1) pe_int (fun _ _ => rfl)) pa_nil))
          (pe_callB call_len_seq (by rfl) T.len PySem.boot_len (pa_cons (pe_ix ix_tup (pe_dget hu (pv 0) (pe_ix ix_tup (pv 1) pe_int (fun _ _ => rfl)) (fun _ _ => rfl)) pe_int (fun _ _ => rfl)) pa_nil)) (nomark _)))))), ?_⟩
    have ll := dps_len hd
    refine ⟨_, rfl, t, xs, rfl, .inr ht, rfl, _, rfl, ?_⟩
    have e3 : decide (V.int ((xs.length : Nat) : Int) = V.int 3) = decide (ds.length = 3) := by
      rw [← ll, dec_int, Bool.eq_iff_iff]
      simp
      omega
    rw [e3]
    by_cases l3 : ds.length = 3
    case neg =>
      rw [decide_eq_false l3]
      refine iteT ?_
      refine iteT ?_
      have ns : useD l ds = false := by
        match ds, l3 with
        | [], _ => simp [useD]
        | [_], _ => simp [useD]
        | [_, _], _ => simp [useD]
        | [_, _, _], h => exact absurd rfl h
        | _ :: _ :: _ :: _ :: _, _ => simp [useD]
      rw [ns] at k
      exact k _ (Same.refl _)
    rw [decide_eq_true l3]
    refine iteF ?_
    obtain ⟨d0, d1, d2, rfl⟩ : ∃ d0 d1 d2, ds = [d0, d1, d2] := by
      match ds, l3 with
      | [d0, d1, d2], _ => exact ⟨d0, d1, d2, rfl⟩
    obtain _ | @⟨x0, _, _, _, h0, hd⟩ := hd
    obtain _ | @⟨x1, _, _, _, h1, hd⟩ := hd
    obtain _ | @⟨x2, _, _, _, h2, hd⟩ := hd
    cases hd
    refine ⟨_, rfl, t, _, 1, x1, rfl, rfl, ht, atI_nat (j := 1) rfl, x1, d1, rfl, h1, fun x e => hz x (by rw [e]; rfl), fun H' s' => ⟨_, rfl, ?_⟩⟩
    by_cases wd : wordD d1 = true
    case neg =>
      rw [Bool.eq_false_iff.mpr wd]
      refine iteT ?_
      refine iteT ?_
      have ns : useD l [d0, d1, d2] = false := by
        cases d1 with
        | str x =>
          cases d2 with
          | tuple as =>
            show (wordD (.str x) && _) = false
            rw [Bool.eq_false_iff.mpr wd, Bool.false_and]
          | _ => rfl
        | _ => rfl
      rw [ns] at k
      exact k _ s'
    rw [wd]
    refine iteF ?_
    obtain ⟨x, rfl⟩ := word_str wd
    cases h1
    have ht' := sqT_same s' ht
    obtain ⟨kvs, ek, hk, hv⟩ := hn.same s'
    refine ⟨_, rfl, t, _, 1, _, rfl, rfl, ht', atI_nat (j := 1) rfl, _, rfl, a, valV kvs (.inr x), rfl, DGet.k (k := (.inr x : Key)) ek, _, rfl, ?_⟩
    rcases val_look x hk hv with ⟨a1, a2⟩ | ⟨ts, g, v, a1, a2, a3⟩
    · rw [a2]
      refine iteT ?_
      have ns : useD l [d0, .str x, d2] = false := by
        cases d2 with
        | tuple as =>
          show (wordD (.str x) && _) = false
          rw [a1, wd]
          rfl
        | _ => rfl
      rw [ns] at k
      exact k _ s'
    rw [a2]
    refine iteF ?_
    refine ⟨_, rfl, t, _, 2, x2, rfl, rfl, ht', atI_nat (j := 2) rfl, x2, .ty "tuple", _, _, _, rfl, .ty "tuple", dp_ty (dp_same s' h2), kit_tuple d2, _, rfl, ?_⟩
    by_cases tx : tyD d2 = "tuple"
    case neg =>
      rw [decide_eq_false tx]
      refine iteF ?_
      have ns : useD l [d0, .str x, d2] = false := by
        cases d2 with
        | tuple as => exact absurd rfl tx
        | _ => rfl
      rw [ns] at k
      exact k _ s'
    obtain ⟨as, rfl⟩ : ∃ as, d2 = .tuple as := by
      cases d2 with
      | tuple as => exact ⟨as, rfl⟩
      | _ => exact absurd tx (by simp [tyD])
    refine iteT ?_
    obtain ⟨⟩ | ⟨⟩ | ⟨⟩ | ⟨⟩ | ⟨⟩ | @⟨b, ys, _, hb, hs⟩ := dp_same s' h2
    obtain ⟨⟩ | ⟨⟩ | ⟨⟩ | ⟨⟩ | ⟨⟩ | @⟨b2, zs, _, hb2, hs2⟩ := a3
    obtain _ | @⟨z0, _, _, _, g0, hs2⟩ := hs2
    obtain _ | @⟨z1, _, _, _, g1, hs2⟩ := hs2
    cases hs2
    obtain ⟨⟩ | ⟨⟩ | ⟨⟩ | ⟨⟩ | ⟨⟩ | @⟨b3, ws, _, hb3, hs3⟩ := g0
    refine ⟨_, rfl, t, _, 2, _, rfl, rfl, ht', atI_nat (j := 2) rfl, b, ys, rfl, .inr hb, ?_⟩
    refine ⟨_, rfl, _, rfl, t, _, 1, _, rfl, rfl, ht', atI_nat (j := 1) rfl, a, .ref b2, rfl, ?_, b2, _, 0, _, rfl, rfl, hb2, atI_nat (j := 0) rfl, b3, ws, rfl, .inr hb3, rfl, ?_⟩
    · rw [← a2]
      exact DGet.k (k := (.inr x : Key)) ek
    have en : useD l [d0, .str x, .tuple as] = decide (V.int ((ys.length : Nat) : Int) = V.int ((ws.length : Nat) : Int)) := by
      show (wordD (.str x) && (match l.lookup x with | some (ts, _) => as.length == ts.length | none => false)) = _
      rw [wd, a1, dec_int]
      show (true && (as.length == ts.length)) = _
      rw [← dps_len hs, ← dps_len hs3, Bool.true_and, Bool.eq_iff_iff, beq_iff_eq, beq_iff_eq]
      omega
    rw [en] at k
    exact k _ s'
end
end Jd
/-! _law_shuffled: the words of a list, in some sequence. -/
namespace Dk
open PySem PySem.Spec PyProof.Rows L2
abbrev sShuffled : Stmt := top 52
theorem scShuffled : FnScope ["draw", "some", "left", "found"] ["draw", "some"] (defScope sShuffled) := ⟨rfl, rfl, rfl, by decide +kernel, rfl, by decide +kernel, by decide +kernel⟩
def spShuffled : Sp := fun vs H Q _ => ∃ (d l c a : Addr) (ss : List Str), vs = [.ref d, .ref a] ∧ DrawAt H d l c ∧ H a = some (.lst (ss.map V.str)) ∧ ss.length ≤ 20 ∧ (∀ x ∈ ss, PyData.strOk x = true) ∧
  ∀ (p : Addr) (zs : List Str) (H' : Hp), DrawAt H' d l c → But H H' d l → H p = none → H' p = some (.lst (zs.map V.str)) → zs.Perm ss → Q (.ref p) H'
section
variable {P : Program} {w : World} {K : PySem.W.Frag} {mg : Str → Option Value} {base : Heap}
theorem erase_map {α β : Type} (f : α → β) : ∀ (l : List α) (j : Nat), (l.map f).eraseIdx j = (l.eraseIdx j).map f
  | [], _ => rfl
  | _ :: _, 0 => rfl
  | a :: l, j + 1 => by
    show f a :: (l.map f).eraseIdx j = f a :: (l.eraseIdx j).map f
    rw [erase_map f l j]
theorem erase_perm {α : Type} : ∀ {l : List α} {j : Nat} {y : α}, l[j]? = some y → (y :: l.eraseIdx j).Perm l
  | [], _, _, h => by simp at h
  | a :: l, 0, y, h => by cases h; exact .refl _
  | a :: l, j + 1, y, h => (List.Perm.swap a y (l.eraseIdx j)).trans ((erase_perm (l := l) (j := j) (y := y) (by simpa using h)).cons a)
theorem dp_strs {H : Hp} : ∀ ls : List Str, DpAll K H (ls.map V.str) (ls.map PyData.str)
  | [] => .nil
  | x :: xs => .cons (.str x) (dp_strs xs)
theorem depth_strs : ∀ ls : List Str, PyData.depthAll (ls.map PyData.str) = 0
  | [] => by simp [PyData.depthAll]
  | x :: xs => by rw [List.map_cons, PyData.depthAll, depth_strs xs]; simp [PyData.depth]
theorem lay_strs : ∀ ls : List Str, (∀ x ∈ ls, PyData.strOk x = true) → PyData.canLayAll0 (ls.map PyData.str) = true
  | [], _ => by simp [PyData.canLayAll0]
  | x :: xs, h => by
    rw [List.map_cons, PyData.canLayAll0, lay_strs xs fun y hy => h y (List.mem_cons_of_mem _ hy)]
    simp [PyData.canLay0, h x (List.mem_cons_self)]
theorem shaped_strs (ls : List Str) (h : ∀ x ∈ ls, PyData.strOk x = true) : SeqAt.shaped (.list (ls.map PyData.str)) = true := by
  unfold SeqAt.shaped
  rw [PyData.canLay0, lay_strs ls h, PyData.depth, depth_strs]
  rfl
theorem DrawAt.off {H : Hp} {d l c L : Addr} {o : HO} (D : DrawAt H d l c) (h1 : L ≠ d) (h2 : L ≠ l) (h3 : L ≠ c) : DrawAt (upd H L o) d l c := by
  obtain ⟨a1, a2, a3, r0, t0, ls, cs, ed, el, ec, q⟩ := D
  exact ⟨a1, a2, a3, r0, t0, ls, cs, by rw [upd_ne h1.symm]; exact ed, by rw [upd_ne h2.symm]; exact el, by rw [upd_ne h3.symm]; exact ec, q⟩
theorem ok_shuffled {f fT : Addr} {fd fdT : FuncData} (F : Fun K "_law_shuffled" "_law_shuffled" sShuffled f fd) (mL : mg "len" = none) (mLi : mg "list" = none) (GT : FnOk P w K mg base CX0 2 fT fdT ["draw", "amount"] spTake) (kT : PySem.W.keepIn K (.ref fT) = true)
    (bT : Binds K fdT ["draw", "amount"] []) (mT : mg "_law_take" = some (.ref fT)) : FnOk P w K mg base CX0 3 f fd ["draw", "some"] spShuffled := by
  refine F.ok scShuffled (fun vs H Q E h => ?_) (fun cdv A outer s H vs Q E hr h => ?_)
  · obtain ⟨d, l, c, a, ss, rfl, _⟩ := h
    rfl
  · obtain ⟨d, l, c, a, ss, rfl, D, ea, hl, hok, k⟩ := h
    have nd := scShuffled.nd
    refine ⟨_, pss_cons (ps_par (i := 2) (j := 3) rfl nd rfl rfl (by decide) rfl rfl (pa_cons (pe_callTy call_list_of (by rfl) mLi (by decide +kernel) (pa_cons (pv 1) pa_nil)) (pa_cons (pe_lst pa_nil) pa_nil)) (by rfl))
      (pss_cons (ps_while PassesOwn.never (pt_cmpR (op_neD hr.units) (pv 2) (pe_lst pa_nil) (nomark _))
        (pss_one (ps_expr (pe_bm PySem.F.plainAttrs_list PySem.F.slot_list_append PySem.F.type_list_append mt_append (pv 3)
          (pa_cons (pe_bm PySem.F.plainAttrs_list PySem.F.slot_list_pop PySem.F.type_list_pop mt_popAt (pv 2) (pa_cons (pe_call GT hr rfl mT kT bT .nil pass0 (pa_cons (pv 0) (pa_cons (pe_callB call_len_seq (by rfl) mL PySem.boot_len (pa_cons (pv 2) pa_nil)) pa_nil))) pa_nil)) pa_nil)))))
      (pss_one (ps_ret (pv 3)))), ?_⟩
    -- left, found = list(some), []
    refine ⟨_, rfl, a, _, rfl, .inl (SqL.of ea), fun L nL => ⟨Nat.zero_le _, fun Fo nF => ?_⟩⟩
    refine ⟨_, _, rfl, ?_⟩
    obtain ⟨_, _, _, r0, t0, ls, cs, ed, el, ec, _⟩ := id D
    have nFL : Fo ≠ L := fun z => by
      rw [z, upd_same] at nF
      cases nF
    have nF0 : H Fo = none := by
      rw [upd_ne nFL] at nF
      exact nF
    have Ld : L ≠ d := (ne_of_none ed nL).symm
    have Ll : L ≠ l := (ne_of_none el nL).symm
    have Lc : L ≠ c := (ne_of_none ec nL).symm
    have Fd : Fo ≠ d := (ne_of_none ed nF0).symm
    have Fl : Fo ≠ l := (ne_of_none el nF0).symm
    have Fc : Fo ≠ c := (ne_of_none ec nF0).symm
    refine ⟨fun m σ H' => ∃ lf fo : List Str, σ = [some (.ref d), some (.ref a), some (.ref L), some (.ref Fo)] ∧ DrawAt H' d l c ∧ But H H' d l ∧ H' L = some (.lst (lf.map V.str)) ∧ H' Fo = some (.lst (fo.map V.str)) ∧ (fo ++ lf).Perm ss ∧ m = lf.length, ?_, ?_⟩
    · refine ⟨_, ss, [], rfl, (D.off Ld Ll Lc).off Fd Fl Fc, fun b o e _ _ => ?_, by rw [upd_ne nFL.symm, upd_same], upd_same, by simp, rfl⟩
      rw [upd_ne (ne_of_none e nF0), upd_ne (ne_of_none e nL)]
      exact e
    · rintro m σ H1 ⟨lf, fo, rfl, D1, B1, eL, eF, pm, rfl⟩
      have okl : ∀ x ∈ lf, PyData.strOk x = true := fun x hx => hok x (pm.mem_iff.mp (List.mem_append_right _ hx))
      have lens : fo.length + lf.length ≤ 20 := by
        have := pm.length_eq
        rw [List.length_append] at this
        omega
      refine ⟨_, rfl, Nat.zero_le _, fun q nq => ?_⟩
      have sq : Same H1 (upd H1 q (.lst [])) := fun b o e => by rw [upd_ne (ne_of_none e nq)]; exact e
      refine ⟨.list (lf.map PyData.str), .list [], .lst (SqL.of (sq _ _ eL)) (dp_strs lf), .lst (SqL.of upd_same) .nil, shaped_strs lf okl, rfl, _, rfl, ?_⟩
      have D2 := D1.same sq
      have B2 := B1.trans (But.same sq (But.refl _ _ _))
      have eL2 := sq _ _ eL
      have eF2 := sq _ _ eF
      generalize upd H1 q (.lst []) = H2 at D2 B2 eL2 eF2 ⊢
      cases lf with
      | nil =>
        refine iteF ?_
        rw [List.append_nil] at pm
        exact ⟨_, rfl, k Fo fo H2 D2 B2 nF0 eF2 pm⟩
      | cons x0 xs =>
        refine iteT ?_
        refine ⟨fun σ' H' => ∃ lf fo : List Str, σ' = [some (.ref d), some (.ref a), some (.ref L), some (.ref Fo)] ∧ DrawAt H' d l c ∧ But H H' d l ∧ H' L = some (.lst (lf.map V.str)) ∧ H' Fo = some (.lst (fo.map V.str)) ∧ (fo ++ lf).Perm ss ∧ lf.length = xs.length,
          fun σ' H' ⟨lf, fo, h1, h2, h3, h4, h5, h6, h7⟩ => ⟨lf.length, by rw [h7]; exact Nat.lt_succ_self _, lf, fo, h1, h2, h3, h4, h5, h6, rfl⟩, ?_⟩
        -- found.append(left.pop(_law_take(draw, len(left))))
        refine ⟨_, rfl, .inl ⟨rfl, _, SqL.of eF2⟩, _, rfl, .inl ⟨rfl, _, SqL.of eL2⟩, _, rfl, _, rfl, L, _, rfl, .inl (SqL.of eL2), d, l, c, _, rfl, by simp only [List.length_map, List.length_cons]; omega, by simp only [List.length_map, List.length_cons] at lens ⊢; omega, D2, fun n H3 n0 n1 D3 B3 => ?_⟩
        obtain ⟨j, rfl⟩ := Int.eq_ofNat_of_zero_le n0
        have jl : j < (x0 :: xs).length := by
          rw [List.length_map] at n1
          omega
        obtain ⟨y, ey⟩ : ∃ y, (x0 :: xs)[j]? = some y := ⟨_, List.getElem?_eq_getElem jl⟩
        have eL3 := B3 _ _ eL2 Ld Ll
        have eF3 := B3 _ _ eF2 Fd Fl
        have sx : seqIndex? ((j : Nat) : Int) ((x0 :: xs).map V.str).length = some j :=
          (ixN_seq (by unfold ixN; rw [List.length_map, if_pos (by omega), if_pos (by omega), Int.toNat_natCast])).1
        refine ⟨L, _, _, j, .str y, rfl, rfl, eL3, by omega, by simp only [List.length_cons] at jl lens; omega, sx, by rw [List.getElem?_map, ey]; rfl, Fo, _, .str y, rfl, rfl, by rw [upd_ne nFL]; exact eF3, ?_, ?_⟩
        · rw [List.length_map]
          exact small1000 (by omega)
        refine ⟨(x0 :: xs).eraseIdx j, fo ++ [y], rfl, (D3.off Ld Ll Lc).off Fd Fl Fc, fun b o e h1 h2 => ?_, ?_, ?_, ?_, ?_⟩
        · have z := B3 _ _ (B2 b o e h1 h2) h1 h2
          rw [upd_ne (ne_of_none e nF0), upd_ne (ne_of_none e nL)]
          exact z
        · rw [upd_ne nFL.symm, upd_same, erase_map]
        · rw [upd_same, List.map_append]
          rfl
        · have p1 : (y :: (x0 :: xs).eraseIdx j).Perm (x0 :: xs) := erase_perm ey
          rw [List.append_assoc]
          exact (List.Perm.append_left fo p1).trans pm
        · rw [List.length_eraseIdx_of_lt jl]
          rfl
end
end Dk
/-! _law_names: drawn names and their sorts. -/
namespace Jd
open PySem PySem.Spec PyProof.Rows L2 Dk
abbrev sLawNames : Stmt := Jd.top 54
abbrev lnN : List Str := ["draw", "many", "most_args", "found", "word", "way", "args_here", "k"]
theorem scLawNames : FnScope lnN ["draw", "many", "most_args"] (defScope sLawNames) := ⟨rfl, rfl, rfl, by decide +kernel, rfl, by decide +kernel, by decide +kernel⟩
/-- a drawn sort at v -/
def SortAt (H : Hp) (v : V) (ts : List Str) (g : Str) : Prop := ∃ a b : Addr, v = .ref a ∧ H a = some (.tup [.ref b, .str g]) ∧ H b = some (.tup (ts.map V.str))
def GoodS (ts : List Str) (g : Str) : Prop := sortD (.tuple [.tuple (ts.map PyData.str), .str g]) = true
abbrev words4 : List Str := ["f", "x", "v", "go"]
abbrev sorts2 : List Str := ["num", "do"]
abbrev sorts4 : List Str := ["num", "num", "do", "box"]
section
variable {P : Program} {w : World} {K : PySem.W.Frag} {mg : Str → Option Value} {base : Heap} {H : Hp}
theorem SortAt.but {H' : Hp} {v : V} {ts : List Str} {g : Str} {d l c : Addr} (s : SortAt H v ts g) (D : DrawAt H d l c) (B : But H H' d l) : SortAt H' v ts g := by
  obtain ⟨a, b, rfl, e1, e2⟩ := s
  obtain ⟨_, _, _, _, _, ls, cs, ed, el, _⟩ := D
  exact ⟨a, b, rfl, B _ _ e1 (ne_of e1 ed (by intro z; cases z)) (ne_of e1 el (by intro z; cases z)), B _ _ e2 (ne_of e2 ed (by intro z; cases z)) (ne_of e2 el (by intro z; cases z))⟩
theorem SortAt.off {v : V} {ts : List Str} {g : Str} {p : Addr} {o u : HO} (s : SortAt H v ts g) (e : H p = some u) (hu : ∀ xs, u ≠ .tup xs) : SortAt (upd H p o) v ts g := by
  obtain ⟨a, b, rfl, e1, e2⟩ := s
  exact ⟨a, b, rfl, by rw [upd_ne (ne_of e1 e (hu _).symm)]; exact e1, by rw [upd_ne (ne_of e2 e (hu _).symm)]; exact e2⟩
theorem SortAt.same {H' : Hp} {v : V} {ts : List Str} {g : Str} (s : SortAt H v ts g) (z : Same H H') : SortAt H' v ts g := by
  obtain ⟨a, b, rfl, e1, e2⟩ := s
  exact ⟨a, b, rfl, z _ _ e1, z _ _ e2⟩
theorem SortAt.dp {v : V} {ts : List Str} {g : Str} (s : SortAt H v ts g) : Dp K H v (.tuple [.tuple (ts.map PyData.str), .str g]) := by
  obtain ⟨a, b, rfl, e1, e2⟩ := s
  exact .tup (SqT.of e1) (.cons (.tup (SqT.of e2) (dp_strs ts)) (.cons (.str g) .nil))
/-- rows of drawn names in a dict: word, sort -/
abbrev NmS := List (Str × (List Str × Str))
def toNm (l : NmS) : NmL := l.map fun q => (q.1, (q.2.1.map PyData.str, q.2.2))
/-- the dict at p holds these drawn names -/
def NmsAt (H : Hp) (p : Addr) (l : NmS) : Prop := ∃ vs : List V, vs.length = l.length ∧ H p = some (.dK ((l.map fun q => (.inr q.1 : Key)).zip vs)) ∧ ∀ (i : Nat) (v : V) (q : Str × (List Str × Str)), vs[i]? = some v → l[i]? = some q → SortAt H v q.2.1 q.2.2
def GoodNm (l : NmS) : Prop := l.length ≤ 4 ∧ ∀ q ∈ l, wordD (.str q.1) = true ∧ GoodS q.2.1 q.2.2
theorem NmsAt.nil {p : Addr} (e : H p = some (.dK [])) : NmsAt H p [] := ⟨[], rfl, e, fun i v q h => by simp at h⟩
theorem NmsAt.but {H' : Hp} {p : Addr} {nm : NmS} {d l c : Addr} (n : NmsAt H p nm) (D : DrawAt H d l c) (B : But H H' d l) (pd : p ≠ d) (pl : p ≠ l) : NmsAt H' p nm := by
  obtain ⟨vs, h1, h2, h3⟩ := n
  exact ⟨vs, h1, B _ _ h2 pd pl, fun i v q a b => (h3 i v q a b).but D B⟩
theorem NmsAt.same {H' : Hp} {p : Addr} {nm : NmS} (n : NmsAt H p nm) (z : Same H H') : NmsAt H' p nm := by
  obtain ⟨vs, h1, h2, h3⟩ := n
  exact ⟨vs, h1, z _ _ h2, fun i v q a b => (h3 i v q a b).same z⟩
theorem NmsAt.put {p : Addr} {nm : NmS} {y : Str} {v : V} {ts : List Str} {g : Str} (n : NmsAt H p nm) (new : y ∉ nm.map Prod.fst) (s : SortAt H v ts g) (hl : nm.length ≤ 10) :
    DPut H p (.str y) v (upd H p (.dK (((nm ++ [(y, (ts, g))]).map fun q => (.inr q.1 : Key)).zip ((n.choose) ++ [v])))) ∧ NmsAt (upd H p (.dK (((nm ++ [(y, (ts, g))]).map fun q => (.inr q.1 : Key)).zip ((n.choose) ++ [v])))) p (nm ++ [(y, (ts, g))]) := by
  have h := n.choose_spec
  generalize n.choose = vs at h ⊢
  obtain ⟨h1, h2, h3⟩ := h
  have ez : ((nm ++ [(y, (ts, g))]).map fun q => (.inr q.1 : Key)).zip (vs ++ [v]) = (nm.map fun q => (.inr q.1 : Key)).zip vs ++ [((.inr y : Key), v)] := by
    rw [List.map_append, List.zip_append (by rw [List.length_map]; exact h1.symm)]
    rfl
  have ep : putK ((nm.map fun q => (.inr q.1 : Key)).zip vs) (.inr y) v = (nm.map fun q => (.inr q.1 : Key)).zip vs ++ [((.inr y : Key), v)] := by
    unfold putK
    rw [if_neg]
    intro z
    rw [List.any_eq_true] at z
    obtain ⟨kv, m, e⟩ := z
    have m1 := (List.of_mem_zip m).1
    rw [List.mem_map] at m1
    obtain ⟨q, mq, eq⟩ := m1
    have e' : kv.1 = .inr y := of_decide_eq_true e
    rw [← eq] at e'
    exact new (List.mem_map.mpr ⟨q, mq, Sum.inr.inj e'⟩)
  have kl : ((nm.map fun q => (.inr q.1 : Key)).zip vs).length < sizeLine := by
    rw [List.length_zip, List.length_map]
    exact small1000 (by omega)
  rw [ez]
  refine ⟨?_, vs ++ [v], by simp [h1], by rw [upd_same, ez], fun i u q a b => ?_⟩
  · have z := DPut.k (k := (.inr y : Key)) (v := v) h2 kl
    rw [ep] at z
    exact z
  · by_cases hi : i < vs.length
    · rw [List.getElem?_append_left hi] at a
      rw [List.getElem?_append_left (by rw [← h1]; exact hi)] at b
      exact (h3 i u q a b).off h2 (by intro xs z; cases z)
    · have ei : i = vs.length := by
        have := (List.getElem?_eq_some_iff.mp a).1
        simp at this
        omega
      subst ei
      have a' : some v = some u := by simpa using a
      have b' : some (y, (ts, g)) = some q := by rw [h1] at b; simpa using b
      cases a'
      cases b'
      exact s.off h2 (by intro xs z; cases z)
theorem pick_str {ss : List Str} {i : Nat} {x : V} (h : (ss.map V.str)[i]? = some x) : ∃ g, g ∈ ss ∧ x = .str g := by
  rw [List.getElem?_map] at h
  cases e : ss[i]? with
  | none => rw [e] at h; cases h
  | some g =>
    rw [e] at h
    exact ⟨g, List.mem_of_getElem? e, (Option.some.inj h).symm⟩
theorem cut_take {xs : List V} {j : Nat} : cutV xs none (some (j : Int)) = xs.take j := by
  unfold cutV
  rw [HT.sIx_none, HT.sIx_nat, List.drop_zero, Nat.sub_zero]
  by_cases h : j ≤ xs.length
  · rw [Nat.min_eq_left h]
  · rw [Nat.min_eq_right (by omega), List.take_length, List.take_of_length_le (by omega)]
def spLawNames : Sp := fun vs H Q _ => ∃ (d l c : Addr) (my mk : Int), vs = [.ref d, .int my, .int mk] ∧ (0 ≤ my ∧ my ≤ 4 ∧ 0 ≤ mk ∧ mk ≤ 3) ∧ DrawAt H d l c ∧ ∀ (p : Addr) (nm : NmS) (H' : Hp), DrawAt H' d l c → But H H' d l → H p = none → NmsAt H' p nm → GoodNm nm → (nm.map Prod.fst).Nodup → ((nm.length : Nat) : Int) ≤ my ∧ (∀ q ∈ nm, q.1 ∈ words4 ∧ ((q.2.1.length : Nat) : Int) ≤ mk) → Q (.ref p) H'
theorem good_mono {ts : List Str} {g : Str} (h3 : ts.length ≤ 3) (hs : ∀ x ∈ ts, x ∈ sorts4) (hg : g ∈ sorts4) (hb : g = "box" → ts = []) : GoodS ts g := by
  have pl : ∀ x ∈ sorts4, plainD (.str x) = true := by decide +kernel
  unfold GoodS sortD
  have e1 : decide (3 < (ts.map PyData.str).length) = false := by
    rw [List.length_map]
    exact decide_eq_false (by omega)
  have e2 : (ts.map PyData.str).all plainD = true := by
    rw [List.all_map, List.all_eq_true]
    exact fun x hx => pl x (hs x hx)
  simp only [e1, e2, pl g hg, Bool.not_false, Bool.true_and]
  by_cases e : g = "box"
  · rw [hb e]
    simp
  · rw [beq_false_of_ne e]
    rfl
theorem ok_lawNames {f fS fT fP : Addr} {fd dS dT dP : FuncData} (F : Fun K "_law_names" "_law_names" sLawNames f fd) (mTu : mg "tuple" = none) (mRg : mg "range" = none)
    (GS : FnOk P w K mg base CX0 3 fS dS ["draw", "some"] spShuffled) (kS : PySem.W.keepIn K (.ref fS) = true) (bS : Binds K dS ["draw", "some"] []) (mS : mg "_law_shuffled" = some (.ref fS))
    (GT : FnOk P w K mg base CX0 2 fT dT ["draw", "amount"] spTake) (kT : PySem.W.keepIn K (.ref fT) = true) (bT : Binds K dT ["draw", "amount"] []) (mT : mg "_law_take" = some (.ref fT))
    (GP : FnOk P w K mg base CX0 3 fP dP ["draw", "some"] (spPick K)) (kP : PySem.W.keepIn K (.ref fP) = true) (bP : Binds K dP ["draw", "some"] []) (mP : mg "_law_pick" = some (.ref fP)) : FnOk P w K mg base CX0 4 f fd ["draw", "many", "most_args"] spLawNames := by
  refine F.ok scLawNames (fun vs H Q E h => ?_) (fun cdv A outer s H vs Q E hr h => ?_)
  · obtain ⟨d, l, c, my, mk, rfl, _⟩ := h
    rfl
  · obtain ⟨d, l, c, my, mk, rfl, ⟨y0, y4, k0, k3⟩, D, k⟩ := h
    have nd := scLawNames.nd
    have hu := hu_of hr
    have hr2 := hr.mono (show 2 ≤ 3 by decide)
    refine ⟨_, pss_cons (ps_set (i := 3) nd rfl (Or.inl rfl) pe_dnewK)
      (pss_cons (ps_for PassesOwn.never rfl (pi_list (pe_slice sl_list (pe_call GS hr rfl mS kS bS .nil pass0 (pa_cons (pv 0) (pa_cons (pe_lst (pa_cons pe_str (pa_cons pe_str (pa_cons pe_str (pa_cons pe_str pa_nil))))) pa_nil))) po_none (po_some (pe_call GT hr2 rfl mT kT bT .nil pass0 (pa_cons (pv 0) (pa_cons (pe_op op_add (pv 1) pe_int) pa_nil))))))
          (pg_name (i := 4) nd rfl (Or.inl rfl))
        (pss_cons (ps_set (i := 5) nd rfl (Or.inl rfl) (pe_call GT hr2 rfl mT kT bT .nil pass0 (pa_cons (pv 0) (pa_cons pe_int pa_nil))))
        (pss_one (ps_if (pt_cmpR op_lt (pv 5) pe_int (nomark _))
          (pss_one (ps_dput hu (pv 3) (pv 4) (pe_tup (pa_cons (pe_tup pa_nil) (pa_cons (pe_call GP hr rfl mP kP bP .nil pass0 (pa_cons (pv 0) (pa_cons (pe_lst (pa_cons pe_str (pa_cons pe_str (pa_cons pe_str (pa_cons pe_str pa_nil))))) pa_nil))) pa_nil))) rfl))
          (pss_cons (ps_set (i := 6) nd rfl (Or.inl rfl) (pe_callTy call_tuple_of (by rfl) mTu (by decide +kernel) (pa_cons
              (pe_lc (own := [("k", 7)]) (g := gName 7) rfl nd (pi_range1 (by rfl) mRg (pa_cons (pe_call GT hr2 rfl mT kT bT .nil pass0 (pa_cons (pv 0) (pa_cons (pe_op op_add (pv 2) pe_int) pa_nil))) pa_nil)) (blkOk_by (N := lnN) (sc := defScope sLawNames) (by decide +kernel))
                (fun _ _ _ _ _ => pg_name (i := 7) nd rfl (Or.inl rfl)) (fun _ _ _ _ _ => pts_nil) (fun _ _ _ _ _ => pe_call GP hr rfl mP kP bP .nil pass0 (pa_cons (pv 0) (pa_cons (pe_lst (pa_cons pe_str (pa_cons pe_str (pa_cons pe_str (pa_cons pe_str pa_nil))))) pa_nil)))) pa_nil)))
          (pss_one (ps_dput hu (pv 3) (pv 4) (pe_tup (pa_cons (pv 6) (pa_cons (pe_call GP hr rfl mP kP bP .nil pass0 (pa_cons (pv 0) (pa_cons (pe_lst (pa_cons pe_str (pa_cons pe_str pa_nil))) pa_nil))) pa_nil))) rfl)))))))
      (pss_one (ps_ret (pv 3)))), ?_⟩
    -- found = {}
    intro p np
    have sp : Same H (upd H p (.dK [])) := fun b o e => by rw [upd_ne (ne_of_none e np)]; exact e
    obtain ⟨_, _, _, r0, t0, ls, cs, ed, el, ec, _⟩ := id D
    have pd : p ≠ d := (ne_of_none ed np).symm
    have pl : p ≠ l := (ne_of_none el np).symm
    have pc : p ≠ c := (ne_of_none ec np).symm
    have ep : (upd H p (.dK [])) p = some (.dK []) := upd_same
    have D1 := D.same sp
    have B1 : But H (upd H p (.dK [])) d l := But.same sp (But.refl _ _ _)
    generalize upd H p (.dK []) = H1 at sp ep D1 B1 ⊢
    -- the shuffled words, cut
    refine ⟨_, rfl, by show 4 ≤ sizeLine; decide, fun w4 nw4 => ?_⟩
    have s4 : Same H1 (upd H1 w4 (.lst (words4.map V.str))) := fun b o e => by rw [upd_ne (ne_of_none e nw4)]; exact e
    have e4 : (upd H1 w4 (.lst (words4.map V.str))) w4 = some (.lst (words4.map V.str)) := upd_same
    refine ⟨d, l, c, w4, words4, rfl, D1.same s4, e4, by decide, by decide +kernel, fun q zs H2 D2 B2 nq eq pm => ?_⟩
    have ep2 : H2 p = some (.dK []) := B2 _ _ (s4 _ _ ep) pd pl
    have B12 : But H H2 d l := (But.same s4 B1).trans B2
    have ed2 := D2.ex
    obtain ⟨_, _, ls2, cs2, ed2, el2, ec2, _⟩ := ed2
    have wd4 : w4 ≠ d := by
      obtain ⟨_, _, _, _, e1, _⟩ := D1.ex
      exact (ne_of_none e1 nw4).symm
    have wl4 : w4 ≠ l := by
      obtain ⟨_, _, _, _, _, e1, _⟩ := D1.ex
      exact (ne_of_none e1 nw4).symm
    have qd : q ≠ d := by
      obtain ⟨_, _, _, _, e1, _⟩ := (D1.same s4).ex
      exact (ne_of_none e1 nq).symm
    have ql : q ≠ l := by
      obtain ⟨_, _, _, _, _, e1, _⟩ := (D1.same s4).ex
      exact (ne_of_none e1 nq).symm
    refine ⟨_, rfl, _, rfl, _, _, rfl, rfl, d, l, c, my + 1, rfl, by omega, by omega, D2, fun n H3 n0 n5 D3 B3 => ⟨n, rfl, q, _, rfl, SqL.of (B3 _ _ eq qd ql), fun S nS => ?_⟩⟩
    obtain ⟨j, rfl⟩ := Int.eq_ofNat_of_zero_le n0
    rw [cut_take, ← List.map_take]
    have sS : Same H3 (upd H3 S (.lst ((zs.take j).map V.str))) := fun b o e => by rw [upd_ne (ne_of_none e nS)]; exact e
    have eS : (upd H3 S (.lst ((zs.take j).map V.str))) S = some (.lst ((zs.take j).map V.str)) := upd_same
    have D4 := D3.same sS
    have B4 : But H (upd H3 S (.lst ((zs.take j).map V.str))) d l := But.same sS (B12.trans B3)
    have ep4 := sS _ _ (B3 _ _ ep2 pd pl)
    have Sd : S ≠ d := by
      obtain ⟨_, _, _, _, e1, _⟩ := D3.ex
      exact (ne_of_none e1 nS).symm
    have Sl : S ≠ l := by
      obtain ⟨_, _, _, _, _, e1, _⟩ := D3.ex
      exact (ne_of_none e1 nS).symm
    have Sp : S ≠ p := (ne_of_none (B3 _ _ ep2 pd pl) nS).symm
    generalize upd H3 S (.lst ((zs.take j).map V.str)) = H4 at sS eS D4 B4 ep4 ⊢
    have zn : zs.Nodup := pm.nodup_iff.mpr (by decide +kernel)
    have zw : ∀ x ∈ zs, wordD (.str x) = true := fun x hx => by
      have all4 : ∀ x ∈ words4, wordD (.str x) = true := by decide +kernel
      exact all4 x (pm.mem_iff.mp hx)
    have wn : (zs.take j).Nodup := zn.sublist (List.take_sublist _ _)
    have wl : (zs.take j).length ≤ 4 := by
      have z4 : zs.length = 4 := pm.length_eq
      rw [List.length_take]
      omega
    have ww : ∀ x ∈ zs.take j, wordD (.str x) = true := fun x hx => zw x (List.mem_of_mem_take hx)
    have w4 : ∀ x ∈ zs.take j, x ∈ words4 := fun x hx => pm.mem_iff.mp (List.mem_of_mem_take hx)
    have wy : (((zs.take j).length : Nat) : Int) ≤ my := by
      rw [List.length_take]
      omega
    generalize zs.take j = ws at eS wn wl ww w4 wy ⊢
    refine ⟨S, rfl, ⟨_, SqL.of eS⟩, for_list (K := K) (a := S) (xs := ws.map V.str) (fun i σ H' => ∃ (nm : NmS) (v4 v5 v6 : Option V), σ = [some (.ref d), some (.int my), some (.int mk), some (.ref p), v4, v5, v6, none] ∧ DrawAt H' d l c ∧ But H H' d l ∧ H' S = some (.lst (ws.map V.str)) ∧ NmsAt H' p nm ∧ nm.map Prod.fst = ws.take i ∧ ∀ q ∈ nm, GoodS q.2.1 q.2.2 ∧ ((q.2.1.length : Nat) : Int) ≤ mk)
      ⟨[], none, none, none, rfl, D4, B4, eS, .nil ep4, rfl, fun q h => by cases h⟩ (fun i σ H' _ ⟨_, _, _, _, _, _, _, e, _⟩ => SqL.of e) ?_ ?_⟩
    · rintro i y0 σ H5 hy ⟨nm, v4, v5, v6, rfl, D5, B5, eS5, N5, en, gd⟩
      rw [List.getElem?_map] at hy
      cases ey : ws[i]? with
      | none => rw [ey] at hy; cases hy
      | some y =>
      rw [ey] at hy
      obtain rfl := Option.some.inj hy
      have nl : nm.length ≤ 4 := by
        have := congrArg List.length en
        rw [List.length_map, List.length_take] at this
        omega
      have new : y ∉ nm.map Prod.fst := by
        rw [en]
        intro z
        obtain ⟨m, hm, em⟩ := List.getElem_of_mem z
        rw [List.getElem_take] at em
        rw [List.length_take] at hm
        have hi := (List.getElem?_eq_some_iff.mp ey)
        obtain ⟨hi, ei⟩ := hi
        have := (List.getElem_inj (h₀ := by omega) (h₁ := hi) wn).mp (em.trans ei.symm)
        omega
      have nxt : ∀ (ts : List Str) (g : Str), GoodS ts g ∧ ((ts.length : Nat) : Int) ≤ mk → (nm ++ [(y, (ts, g))]).map Prod.fst = ws.take (i + 1) ∧ ∀ q ∈ nm ++ [(y, (ts, g))], GoodS q.2.1 q.2.2 ∧ ((q.2.1.length : Nat) : Int) ≤ mk := fun ts g hg => by
        refine ⟨by rw [List.map_append, en, List.take_add_one, ey]; rfl, fun q hq => ?_⟩
        rcases List.mem_append.mp hq with h | h
        · exact gd q h
        · rw [List.mem_singleton] at h
          rw [h]
          exact hg
      -- way = _law_take(draw, 6)
      refine ⟨_, rfl, d, l, c, 6, rfl, by decide, by decide, D5, fun way H6 _ _ D6 B6 => ?_⟩
      have N6 := N5.but D5 B6 pd pl
      have eS6 := B6 _ _ eS5 Sd Sl
      have B06 := B5.trans B6
      refine ⟨_, rfl, _, _, rfl, rfl, _, rfl, ?_⟩
      refine ite2 (fun _ => ?_) (fun _ => ?_)
      · -- found[word] = ((), _law_pick(..))
        refine ⟨Nat.zero_le _, fun b nb => ?_⟩
        have sb : Same H6 (upd H6 b (.tup [])) := fun x o e => by rw [upd_ne (ne_of_none e nb)]; exact e
        have eb : (upd H6 b (.tup [])) b = some (.tup []) := upd_same
        generalize upd H6 b (.tup []) = H7 at sb eb ⊢
        refine ⟨_, rfl, by show 4 ≤ sizeLine; decide, fun u nu => ?_⟩
        have ud : u ≠ d := by
          obtain ⟨_, _, _, _, e1, _⟩ := (D6.same sb).ex
          exact (ne_of_none e1 nu).symm
        have ul : u ≠ l := by
          obtain ⟨_, _, _, _, _, e1, _⟩ := (D6.same sb).ex
          exact (ne_of_none e1 nu).symm
        have su : Same H7 (upd H7 u (.lst (sorts4.map V.str))) := fun x o e => by rw [upd_ne (ne_of_none e nu)]; exact e
        have eu : (upd H7 u (.lst (sorts4.map V.str))) u = some (.lst (sorts4.map V.str)) := upd_same
        have sbu := sb.trans su
        refine ⟨d, l, c, u, _, rfl, eu, ud, ul, by decide, by decide, D6.same sbu, fun ix x H9 hx D9 B9 => ?_⟩
        obtain ⟨g, hg, rfl⟩ := pick_str (ss := sorts4) hx
        have B69 : But H6 H9 d l := (But.same sbu (But.refl _ _ _)).trans B9
        have eb9 : H9 b = some (.tup []) := by
          obtain ⟨_, _, _, _, e1, e2, _⟩ := (D6.same sb).ex
          exact B9 _ _ (su _ _ eb) (ne_of eb e1 (by intro z; cases z)) (ne_of eb e2 (by intro z; cases z))
        refine ⟨by show 2 ≤ sizeLine; decide, fun t nt => ?_⟩
        have st : Same H9 (upd H9 t (.tup [.ref b, .str g])) := fun x o e => by rw [upd_ne (ne_of_none e nt)]; exact e
        have hs : SortAt (upd H9 t (.tup [.ref b, .str g])) (.ref t) [] g := ⟨t, b, rfl, upd_same, st _ _ eb9⟩
        have N10 := (N6.but D6 B69 pd pl).same st
        have D10 := D9.same st
        have B10 : But H (upd H9 t (.tup [.ref b, .str g])) d l := But.same st (B06.trans B69)
        have eS10 := st _ _ (B69 _ _ eS6 Sd Sl)
        generalize upd H9 t (.tup [.ref b, .str g]) = H10 at hs N10 D10 B10 eS10 ⊢
        have put := N10.put new hs (by omega)
        have gd' := nxt [] g ⟨good_mono (by decide) (fun x h => by cases h) hg (fun _ => rfl), by show (0 : Int) ≤ mk; exact k0⟩
        exact ⟨_, rfl, _, rfl, p, _, rfl, put.1, nm ++ [(y, ([], g))], _, _, _, rfl, D10.off pd pl pc, fun x o e h1 h2 => by rw [upd_ne (ne_of_none e np)]; exact B10 x o e h1 h2, by rw [upd_ne Sp]; exact eS10, put.2, gd'.1, gd'.2⟩
      · -- args_here = tuple([..])
        refine ⟨_, rfl, _, rfl, _, _, rfl, rfl, d, l, c, mk + 1, rfl, by omega, by omega, D6, fun m H7 m0 m4 D7 B7 => ⟨m, rfl, by omega, by omega, fun Dl nDl => ?_⟩⟩
        have Dd : Dl ≠ d := by
          obtain ⟨_, _, _, _, e1, _⟩ := D7.ex
          exact (ne_of_none e1 nDl).symm
        have Dll : Dl ≠ l := by
          obtain ⟨_, _, _, _, _, e1, _⟩ := D7.ex
          exact (ne_of_none e1 nDl).symm
        have Dc : Dl ≠ c := by
          obtain ⟨_, _, _, _, _, _, e1, _⟩ := D7.ex
          exact (ne_of_none e1 nDl).symm
        have B07 := B06.trans B7
        have N7 := N6.but D6 B7 pd pl
        have eS7 := B7 _ _ eS6 Sd Sl
        refine lc_range (lo := 0) (n := m.toNat) (fun i H' => DrawAt H' d l c ∧ But H7 H' d l ∧ ∃ as : List Str, as.length = i ∧ (∀ x ∈ as, x ∈ sorts4) ∧ H' Dl = some (.lst (as.map V.str)))
          ⟨D7.off Dd Dll Dc, fun x o e _ _ => by rw [upd_ne (ne_of_none e nDl)]; exact e, [], rfl, fun x h => (List.not_mem_nil h).elim, upd_same⟩ ?_ ?_
        · rintro i2 H' hi2 ⟨D', B', as, la, ha, eD⟩
          refine ⟨rfl, ?_⟩
          refine ⟨_, rfl, by show 4 ≤ sizeLine; decide, fun u nu => ?_⟩
          have ud : u ≠ d := by
            obtain ⟨_, _, _, _, e1, _⟩ := D'.ex
            exact (ne_of_none e1 nu).symm
          have ul : u ≠ l := by
            obtain ⟨_, _, _, _, _, e1, _⟩ := D'.ex
            exact (ne_of_none e1 nu).symm
          have su : Same H' (upd H' u (.lst (sorts4.map V.str))) := fun x o e => by rw [upd_ne (ne_of_none e nu)]; exact e
          have eu : (upd H' u (.lst (sorts4.map V.str))) u = some (.lst (sorts4.map V.str)) := upd_same
          refine ⟨d, l, c, u, _, rfl, eu, ud, ul, by decide, by decide, D'.same su, fun ix x H9 hx D9 B9 => ?_⟩
          obtain ⟨g, hg, rfl⟩ := pick_str (ss := sorts4) hx
          refine ⟨_, B9 _ _ (su _ _ eD) Dd Dll, ?_, D9.off Dd Dll Dc, fun x o e h1 h2 => ?_, as ++ [g], by simp [la], fun x h => ?_, ?_⟩
          · rw [List.length_map, la]
            exact small1000 (by omega)
          · rw [upd_ne (ne_of_none e nDl)]
            exact B9 _ _ (su _ _ (B' x o e h1 h2)) h1 h2
          · rcases List.mem_append.mp h with h | h
            · exact ha x h
            · rw [List.mem_singleton] at h
              rw [h]
              exact hg
          · rw [upd_same, List.map_append]
            rfl
        · rintro H8 ⟨D8, B8, as, la, ha, eD⟩
          refine ⟨Dl, _, rfl, .inl ⟨SqL.of eD, fun b nb => ?_⟩⟩
          have sb : Same H8 (upd H8 b (.tup (as.map V.str))) := fun x o e => by rw [upd_ne (ne_of_none e nb)]; exact e
          have eb : (upd H8 b (.tup (as.map V.str))) b = some (.tup (as.map V.str)) := upd_same
          generalize upd H8 b (.tup (as.map V.str)) = H9 at sb eb ⊢
          have D9 := D8.same sb
          -- found[word] = (args_here, _law_pick(..))
          refine ⟨_, rfl, _, rfl, by show 2 ≤ sizeLine; decide, fun u nu => ?_⟩
          have ud : u ≠ d := by
            obtain ⟨_, _, _, _, e1, _⟩ := D9.ex
            exact (ne_of_none e1 nu).symm
          have ul : u ≠ l := by
            obtain ⟨_, _, _, _, _, e1, _⟩ := D9.ex
            exact (ne_of_none e1 nu).symm
          have su : Same H9 (upd H9 u (.lst (sorts2.map V.str))) := fun x o e => by rw [upd_ne (ne_of_none e nu)]; exact e
          have eu : (upd H9 u (.lst (sorts2.map V.str))) u = some (.lst (sorts2.map V.str)) := upd_same
          refine ⟨d, l, c, u, _, rfl, eu, ud, ul, by decide, by decide, D9.same su, fun ix x H10 hx D10 B10 => ?_⟩
          obtain ⟨g, hg, rfl⟩ := pick_str (ss := sorts2) hx
          have B710 : But H7 H10 d l := (B8.trans (But.same (sb.trans su) (But.refl _ _ _))).trans B10
          have eb10 : H10 b = some (.tup (as.map V.str)) := by
            obtain ⟨_, _, _, _, e1, e2, _⟩ := D9.ex
            exact B10 _ _ (su _ _ eb) (ne_of eb e1 (by intro z; cases z)) (ne_of eb e2 (by intro z; cases z))
          refine ⟨by show 2 ≤ sizeLine; decide, fun t nt => ?_⟩
          have st : Same H10 (upd H10 t (.tup [.ref b, .str g])) := fun x o e => by rw [upd_ne (ne_of_none e nt)]; exact e
          have hs : SortAt (upd H10 t (.tup [.ref b, .str g])) (.ref t) as g := ⟨t, b, rfl, upd_same, st _ _ eb10⟩
          have N11 := (N7.but D7 B710 pd pl).same st
          have D11 := D10.same st
          have B11 : But H (upd H10 t (.tup [.ref b, .str g])) d l := But.same st (B07.trans B710)
          have eS11 := st _ _ (B710 _ _ eS7 Sd Sl)
          generalize upd H10 t (.tup [.ref b, .str g]) = H11 at hs N11 D11 B11 eS11 ⊢
          have put := N11.put new hs (by omega)
          have gs : g ∈ sorts4 ∧ g ≠ "box" := by
            have z : ∀ x ∈ sorts2, x ∈ sorts4 ∧ x ≠ "box" := by decide +kernel
            exact z g hg
          have gd' := nxt as g ⟨good_mono (by omega) ha gs.1 (fun z => absurd z gs.2), by omega⟩
          exact ⟨_, rfl, _, rfl, p, _, rfl, put.1, nm ++ [(y, (as, g))], _, _, _, rfl, D11.off pd pl pc, fun x o e h1 h2 => by rw [upd_ne (ne_of_none e np)]; exact B11 x o e h1 h2, by rw [upd_ne Sp]; exact eS11, put.2, gd'.1, gd'.2⟩
    · rintro σ H5 ⟨nm, v4, v5, v6, rfl, D5, B5, eS5, N5, en, gd⟩
      rw [List.length_map, List.take_length] at en
      refine ⟨_, rfl, k p nm H5 D5 B5 np N5 ⟨?_, fun q hq => ⟨?_, (gd q hq).1⟩⟩ (by rw [en]; exact wn) ⟨?_, fun q hq => ⟨w4 _ (by rw [← en]; exact List.mem_map_of_mem hq), (gd q hq).2⟩⟩⟩
      · have := congrArg List.length en
        rw [List.length_map] at this
        omega
      · exact ww _ (by rw [← en]; exact List.mem_map_of_mem hq)
      · have := congrArg List.length en
        rw [List.length_map] at this
        omega
end
end Jd
/-! _has_form of terms.py. -/
namespace Jd
open PySem PySem.Spec PyProof.Rows L2 RZ
abbrev sHasForm : Stmt := top 39
theorem scHasForm : FnScope ["size", "names", "term", "form", "wanted", "thing"] ["size", "names", "term"] (defScope sHasForm) := ⟨rfl, rfl, rfl, by decide +kernel, rfl, by decide +kernel, by decide +kernel⟩
/-- what stands behind a word -/
def forms : List (Str × List Str) :=
  [("number", ["figure"]), ("skip", []), ("never", ["ending"]), ("sum", ["num", "num"]), ("less", ["num", "num"]), ("same", ["num", "num"]), ("below", ["num", "num"]), ("not", ["num"]), ("then", ["do", "some"]), ("if", ["num", "some", "alike"]),
   ("while", ["num", "do"]), ("get", ["box"]), ("set", ["box", "num"]), ("new", ["word", "figure", "some"]), ("made", ["num", "word", "do"]), ("claim", ["num"])]
theorem forms_name : forms.lookup ("name" : Str) = none := by decide +kernel
theorem forms_len : ∀ q ∈ forms, q.2.length ≤ 3 := by decide +kernel
/-- what the top has written of FORMS -/
structure FormTop (K : PySem.W.Frag) (w : World) (mg : Str → Option Value) (dF : Addr) (es : Array DictEntry) (n : Nat) : Prop where
  mF : mg "FORMS" = some (.ref dF)
  kd : KDict K w dF es n
  at_ : ∀ z, (forms.lookup z = none ∧ PySem.W.nsIn K dF z = some none) ∨ ∃ ws a, forms.lookup z = some ws ∧ PySem.W.nsIn K dF z = some (some (.ref a)) ∧ ∀ H : Hp, SqT K H a (ws.map V.str)
  zip : mg "zip" = none
def formD (n : Int) (l : NmL) : PyData → Bool
  | .tuple (.str x :: ds) => if x = "name" then useD l (.str x :: ds) else match forms.lookup x with
    | none => false
    | some ws => ds.length == ws.length && (ws.zip ds).all fun p => thingD n p.1 p.2
  | _ => false
section
variable {P : Program} {w : World} {K : PySem.W.Frag} {mg : Str → Option Value} {base : Heap} {H : Hp} {aP dF : Addr} {es : Array DictEntry} {nF : Nat}
theorem walk_zipT {a b : Addr} {xs ys : List V} {n : Nat} (hn : n = min xs.length ys.length) : Walk (ItzT K a b) n (fun H => SqT K H a xs ∧ SqT K H b ys) (YPair (fun i => xs[i]?) (fun i => ys[i]?)) := by
  refine ⟨fun i H hi ⟨h1, h2⟩ => ⟨xs, ys, xs[i]'(by omega), ys[i]'(by omega), h1, h2, List.getElem?_eq_getElem _, List.getElem?_eq_getElem _⟩, fun H ⟨h1, h2⟩ => ⟨xs, ys, h1, h2, by omega⟩,
    fun i H v H' hi ⟨h1, h2⟩ ⟨T, x, y, ev, nT, eH, e1, e2⟩ => ⟨T, x, y, ev, nT, eH, e1 _ h1, e2 _ h2⟩⟩
theorem sIx_one {n : Nat} : HT.sIx (n + 1) 0 (some 1) = 1 := by
  unfold HT.sIx
  simp
  try omega
theorem sIx_none {n k : Nat} : HT.sIx n k none = k := rfl
theorem cut_one {v : V} {xs : List V} : cutV (v :: xs) (some 1) none = xs := by
  unfold cutV
  rw [List.length_cons, sIx_one, sIx_none]
  simp
def spForm (K : PySem.W.Frag) : Sp := fun vs H Q _ => ∃ (n : Int) (a : Addr) (l : NmL) (v : V) (d : PyData), vs = [.int n, .ref a, v] ∧ NmD K H a l ∧ Dp K H v d ∧ (∀ ds, d = .tuple ds → ∀ x, .str x ∈ ds → x.length ≤ sizeLine) ∧ ∀ H', Same H H' → Q (.bl (formD n l d)) H'
theorem ok_form {f fU fT : Addr} {fd fdU fdT : FuncData} (F : Fun K "_has_form" "_has_form" sHasForm f fd) (T : Top K mg aP) (TF : FormTop K w mg dF es nF) (GU : FnOk P w K mg base CX0 2 fU fdU ["names", "term"] (spUse K)) (kU : PySem.W.keepIn K (.ref fU) = true) (bU : Binds K fdU ["names", "term"] []) (mU : mg "_is_use" = some (.ref fU))
    (GT : FnOk P w K mg base CX0 3 fT fdT ["size", "wanted", "thing"] (spThing K)) (kT : PySem.W.keepIn K (.ref fT) = true) (bT : Binds K fdT ["size", "wanted", "thing"] []) (mT : mg "_is_thing" = some (.ref fT)) : FnOk P w K mg base CX0 4 f fd ["size", "names", "term"] (spForm K) := by
  refine F.ok scHasForm (fun vs H Q E h => ?_) (fun cdv A outer s H vs Q E hr h => ?_)
  · obtain ⟨n, a, l, v, d, rfl, _⟩ := h
    rfl
  · obtain ⟨n, a, l, v, d, rfl, hn, hd, hz, k⟩ := h
    have nd := scHasForm.nd
    have hr2 := hr.mono (show 2 ≤ 3 by decide)
    refine ⟨_, pss_cons (ps_if (PW.pt (pw_or (pt_not (pt_val (pe_callB call_isi (by rfl) T.isi (by decide +kernel) (pa_cons (pv 2) (pa_cons (pe_bltn (v := V.ty "tuple") (by rfl) T.tTup (by decide +kernel) rfl) pa_nil)))))
        (pw_or (pt_cmpR op_eq (pe_callB call_len_seq (by rfl) T.len PySem.boot_len (pa_cons (pv 2) pa_nil)) pe_int (nomark _))
        (pw_or1 (pt_not (pt_val (pe_callB call_isi (by rfl) T.isi (by decide +kernel) (pa_cons (pe_ix ix_tup (pv 2) pe_int (fun _ _ => rfl)) (pa_cons (pe_bltn (v := V.ty "str") (by rfl) T.tStr (by decide +kernel) rfl) pa_nil))))))))) (pss_one (ps_ret pe_bl)) pss_nil)
      (pss_cons (ps_if (pt_cmpR op_eq (pe_ix ix_tup (pv 2) pe_int (fun _ _ => rfl)) pe_str (nomark _)) (pss_one (ps_ret (pe_call GU hr2 rfl mU kU bU .nil pass0 (pa_cons (pv 1) (pa_cons (pv 2) pa_nil))))) pss_nil)
      (pss_cons (ps_if (pt_cmpR (op_notIn_kd TF.kd) (pe_ix ix_tup (pv 2) pe_int (fun _ _ => rfl)) (pe_glob (v := V.ref dF) (by rfl) TF.mF rfl) (by rfl)) (pss_one (ps_ret pe_bl)) pss_nil)
      (pss_cons (ps_set (i := 3) nd rfl (Or.inl rfl) (pe_ix ix_kdict (pe_glob (v := V.ref dF) (by rfl) TF.mF rfl) (pe_ix ix_tup (pv 2) pe_int (fun _ _ => rfl)) (fun _ _ => rfl)))
      (pss_cons (ps_if (pt_cmpR op_ne (pe_callB call_len_seq (by rfl) T.len PySem.boot_len (pa_cons (pv 2) pa_nil)) (pe_op op_add (pe_callB call_len_seq (by rfl) T.len PySem.boot_len (pa_cons (pv 3) pa_nil)) pe_int) (nomark _)) (pss_one (ps_ret pe_bl)) pss_nil)
      (pss_one (ps_ret (pe_callB (cr_all rfl) (by rfl) T.all (by decide +kernel) (pa_cons
        (pe_lc (own := [("wanted", 4), ("thing", 5)]) (g := gTup K 2 (gCons (gName 4) (gCons (gName 5) gNil))) rfl nd (pi_zipA (by rfl) TF.zip (pa_cons (pv 3) (pa_cons (pe_slice sl_tup (pv 2) (po_some pe_int) po_none) pa_nil)))
          (blkOk_by (N := ["size", "names", "term", "form", "wanted", "thing"]) (sc := defScope sHasForm) (by decide +kernel))
          (fun _ _ _ _ _ => pg_tup (by rfl) (pgs_cons (pg_name (i := 4) nd rfl (Or.inl rfl)) (pgs_cons (pg_name (i := 5) nd rfl (Or.inl rfl)) pgs_nil))) (fun _ _ _ _ _ => pts_nil)
          (fun _ _ _ _ _ => pe_call GT hr rfl mT kT bT .nil pass0 (pa_cons (pv 0) (pa_cons (pv 4) (pa_cons (pv 5) pa_nil))))) pa_nil)))))))), ?_⟩
    refine isi rfl hd (kit_tuple d) ⟨_, rfl, ?_⟩
    by_cases tx : tyD d = "tuple"
    case neg =>
      rw [decide_eq_false tx]
      refine iteT ?_
      refine iteT ?_
      have ns : formD n l d = false := by
        cases d with
        | tuple ds => exact absurd rfl tx
        | _ => rfl
      rw [ns] at k
      exact k _ (Same.refl _)
    obtain ⟨ds, rfl⟩ : ∃ ds, d = .tuple ds := by
      cases d with
      | tuple ds => exact ⟨ds, rfl⟩
      | _ => exact absurd tx (by simp [tyD])
    refine iteF ?_
    obtain ⟨⟩ | ⟨⟩ | ⟨⟩ | ⟨⟩ | ⟨⟩ | @⟨t, xs, _, ht, hs⟩ := hd
    have ll := dps_len hs
    refine ⟨_, rfl, t, xs, rfl, .inr ht, rfl, _, rfl, ?_⟩
    cases hs with
    | nil =>
      refine iteT ?_
      refine iteT ?_
      exact k _ (Same.refl _)
    | @cons x0 xs d0 ds h0 hs =>
    have e0 : decide (V.int (((x0 :: xs).length : Nat) : Int) = V.int 0) = false := by
      rw [dec_int, beq_eq_false_iff_ne]
      simp
      omega
    rw [e0]
    refine iteF ?_
    refine ⟨_, rfl, t, _, 0, x0, rfl, rfl, ht, atI_nat (j := 0) rfl, x0, .ty "str", _, _, _, rfl, .ty "str", dp_ty h0, kit_str d0, _, rfl, ?_⟩
    by_cases ts : tyD d0 = "str"
    case neg =>
      rw [decide_eq_false ts]
      refine iteT ?_
      have ns : formD n l (.tuple (d0 :: ds)) = false := by
        cases d0 with
        | str x => exact absurd rfl ts
        | _ => simp [formD]
      rw [ns] at k
      exact k _ (Same.refl _)
    obtain ⟨x, rfl⟩ : ∃ x, d0 = .str x := by
      cases d0 with
      | str x => exact ⟨x, rfl⟩
      | _ => exact absurd ts (by simp [tyD])
    cases h0
    refine iteF ?_
    -- term[0] == 'name'
    refine ⟨_, rfl, t, _, 0, _, rfl, rfl, ht, atI_nat (j := 0) rfl, rfl, _, rfl, ?_⟩
    rw [dec_str]
    by_cases en : x = "name"
    · subst en
      refine ⟨_, rfl, _, rfl, a, t, l, _, _, rfl, hn, ht, .cons (.str _) hs, fun y e => ?_, ?_⟩
      · exact hz _ rfl y (List.mem_of_getElem? e)
      · exact k
    rw [beq_false_of_ne en]
    refine iteF ?_
    rcases TF.at_ x with ⟨fx, ex⟩ | ⟨ws, af, fx, ex, hw⟩
    · refine ⟨_, rfl, t, _, 0, _, rfl, rfl, ht, atI_nat (j := 0) rfl, x, _, rfl, rfl, ex, _, rfl, ?_⟩
      refine iteT ?_
      have ns : formD n l (.tuple (.str x :: ds)) = false := by
        simp only [formD]
        rw [if_neg en, fx]
      rw [ns] at k
      exact k _ (Same.refl _)
    refine ⟨_, rfl, t, _, 0, _, rfl, rfl, ht, atI_nat (j := 0) rfl, x, _, rfl, rfl, ex, _, rfl, ?_⟩
    refine iteF ?_
    refine ⟨_, rfl, t, _, 0, _, rfl, rfl, ht, atI_nat (j := 0) rfl, dF, x, .ref af, rfl, rfl, ⟨es, nF, .ref af, TF.kd.at_, TF.kd.lit, ex, rfl⟩, ?_⟩
    have es0 : formD n l (.tuple (.str x :: ds)) = (ds.length == ws.length && (ws.zip ds).all fun p => thingD n p.1 p.2) := by
      simp only [formD]
      rw [if_neg en, fx]
    rw [es0] at k
    refine ⟨_, rfl, t, _, rfl, .inr ht, _, rfl, af, ws.map V.str, rfl, .inr (hw H), _, _, rfl, rfl, rfl, _, rfl, ?_⟩
    have el : (!decide (V.int (((V.str x :: xs).length : Nat) : Int) = V.int (((ws.map V.str).length : Nat) + 1))) = !(ds.length == ws.length) := by
      have ll' : xs.length = ds.length := by simpa using ll
      rw [dec_int, List.length_cons, List.length_map, ll']
      congr 1
      rw [Bool.eq_iff_iff, beq_iff_eq, beq_iff_eq]
      omega
    rw [el]
    by_cases lw : ds.length = ws.length
    case neg =>
      rw [beq_false_of_ne lw]
      refine iteT ?_
      rw [beq_false_of_ne lw, Bool.false_and] at k
      exact k _ (Same.refl _)
    have bw : (ds.length == ws.length) = true := beq_iff_eq.mpr lw
    rw [bw]
    rw [bw, Bool.true_and] at k
    refine iteF ?_
    -- all([.. for wanted, thing in zip(form, term[1:])])
    refine ⟨_, rfl, _, rfl, 1, rfl, t, _, rfl, ht, ?_, fun p np => ?_⟩
    · rw [List.length_cons, sIx_one]
      exact fun z => by cases z.1
    rw [cut_one]
    have s1 : Same H (upd H p (.tup xs)) := fun b o e => by rw [upd_ne (ne_of_none e np)]; exact e
    have hp : (upd H p (.tup xs)) p = some (.tup xs) := upd_same
    generalize upd H p (.tup xs) = H1 at s1 hp ⊢
    refine ⟨af, p, _, _, rfl, .inr ⟨hw H1, SqT.of hp, fun D nD => ?_⟩⟩
    have hs1 : DpAll K H1 xs ds := dps_same s1 hs
    have ll' : xs.length = ds.length := by simpa using ll
    have sD : ∀ {H' : Hp} {o : HO}, Same H1 H' → Same H1 (upd H' D o) := fun z b o e => by
      rw [upd_ne (ne_of_none e nD)]
      exact z _ _ e
    have hl3 := forms_len _ (PySem.mem_of_lookup fx)
    have hl3 : ws.length ≤ 3 := hl3
    refine lc_it (walk_zipT (K := K) (a := af) (b := p) (xs := ws.map V.str) (ys := xs) (n := ds.length) (by rw [List.length_map, ll', ← lw, Nat.min_self])) (fun i H' => Same H1 H' ∧ H' D = some (.lst (((ws.zip ds).take i).map fun q => V.bl (thingD n q.1 q.2))))
      ⟨sD (Same.refl _), upd_same⟩ (fun i H' _ ⟨z, _⟩ => ⟨hw _, SqT.of (z _ _ hp)⟩) ?_ ?_
    · rintro i y H2 H2' hi ⟨z, e1⟩ ⟨N, x', yv, rfl, nN, rfl, ex', ey⟩
      have ex' : (ws.map V.str)[i]? = some x' := ex'
      have ey : xs[i]? = some yv := ey
      rw [List.getElem?_map] at ex'
      obtain ⟨wd, ew⟩ : ∃ wd, ws[i]? = some wd := ⟨_, List.getElem?_eq_getElem (by rw [← lw]; exact hi)⟩
      rw [ew] at ex'
      obtain rfl := Option.some.inj ex'
      obtain ⟨d, ed, dd⟩ := dps_get hs1 ey
      have eq : (ws.zip ds)[i]? = some (wd, d) := List.getElem?_zip_eq_some.mpr ⟨ew, ed⟩
      have sN : Same H1 (upd H2 N (.tup [V.str wd, yv])) := fun b o e => by
        rw [upd_ne (ne_of_none (z _ _ e) nN)]
        exact z _ _ e
      have eD : (upd H2 N (.tup [V.str wd, yv])) D = some (.lst (((ws.zip ds).take i).map fun q => V.bl (thingD n q.1 q.2))) := by
        rw [upd_ne (ne_of_none e1 nN)]
        exact e1
      have hT : (upd H2 N (.tup [V.str wd, yv])) N = some (.tup [V.str wd, yv]) := upd_same
      generalize upd H2 N (.tup [V.str wd, yv]) = H3 at sN eD hT ⊢
      refine ⟨N, _, rfl, SqT.of hT, rfl, _, _, rfl, _, _, rfl, rfl, ?_⟩
      refine ⟨rfl, ?_⟩
      refine ⟨_, rfl, _, rfl, _, rfl, n, wd, yv, d, rfl, dp_same sN dd, fun u e => ?_, fun H4 s4 => ⟨_, s4 _ _ eD, ?_, sD (sN.trans s4), ?_⟩⟩
      · subst e
        exact hz _ rfl u (List.mem_cons_of_mem _ (List.mem_of_getElem? ed))
      · rw [List.length_map, List.length_take]
        have : (ws.zip ds).length ≤ 3 := by rw [List.length_zip]; omega
        exact small1000 (by omega)
      · rw [upd_same, take_map_snoc (fun q : Str × PyData => V.bl (thingD n q.1 q.2)) eq]
    · rintro H' ⟨z, e1⟩
      have e1' : H' D = some (.lst (((ws.zip ds).map fun q => thingD n q.1 q.2).map V.bl)) := by
        rw [e1, List.take_of_length_le (by rw [List.length_zip]; omega), List.map_map]
        rfl
      refine ⟨_, (ws.zip ds).map fun q => thingD n q.1 q.2, rfl, SqL.of e1', ?_⟩
      have ea : ((ws.zip ds).map fun q => thingD n q.1 q.2).all id = (ws.zip ds).all fun q => thingD n q.1 q.2 := by
        rw [List.all_map]
        rfl
      rw [ea]
      exact k _ (s1.trans z)
end
end Jd
/-! The smaller defs round _sort_at. -/
namespace Jd
open PySem PySem.Spec PyProof.Rows L2 RZ
abbrev sWantedSorts : Stmt := top 42
abbrev sSortGiven : Stmt := top 44
theorem scIsWanted : FnScope ["sort", "wanted", "ahead"] ["sort", "wanted", "ahead"] (defScope sIsWanted) := ⟨rfl, rfl, rfl, by decide +kernel, rfl, by decide +kernel, by decide +kernel⟩
theorem scWantedSorts : FnScope ["names", "term", "wanted"] ["names", "term"] (defScope sWantedSorts) := ⟨rfl, rfl, rfl, by decide +kernel, rfl, by decide +kernel, by decide +kernel⟩
theorem scSortGiven : FnScope ["names", "term", "sorts"] ["names", "term", "sorts"] (defScope sSortGiven) := ⟨rfl, rfl, rfl, by decide +kernel, rfl, by decide +kernel, by decide +kernel⟩
section
variable {P : Program} {w : World} {K : PySem.W.Frag} {mg : Str → Option Value} {base : Heap} {H : Hp} {aP dF : Addr} {es : Array DictEntry} {nF : Nat}
def isWantedD (s wd : Str) (ahead : List Str) : Bool := if wd = "some" then inV (.str s) [.str "num", .str "do"] else if wd = "alike" then some s == ahead.getLast? else s == wd
def spIsWanted (K : PySem.W.Frag) : Sp := fun vs H Q _ => ∃ (s wd : Str) (a : Addr) (ahead : List Str), vs = [.str s, .str wd, .ref a] ∧ SqL K H a (ahead.map V.str) ∧ (wd = "alike" → ∃ m z, ahead = m ++ [z]) ∧ ∀ H', Same H H' → Q (.bl (isWantedD s wd ahead)) H'
theorem ok_isWanted {f : Addr} {fd : FuncData} (F : Fun K "_is_wanted" "_is_wanted" sIsWanted f fd) : FnOk P w K mg base CX0 1 f fd ["sort", "wanted", "ahead"] (spIsWanted K) := by
  refine F.ok scIsWanted (fun vs H Q E h => ?_) (fun cdv A outer s H vs Q E hr h => ?_)
  · obtain ⟨n, wd, a, ah, rfl, _⟩ := h
    rfl
  · obtain ⟨so, wd, a, ah, rfl, hl, hn, k⟩ := h
    refine ⟨_, pss_cons (ps_if (pt_cmpR op_eq (pv 1) pe_str (nomark _)) (pss_one (ps_ret (pe_cmpR op_in_seq (pv 0) (pe_tup (pa_cons pe_str (pa_cons pe_str pa_nil))) (by rfl)))) pss_nil)
      (pss_cons (ps_if (pt_cmpR op_eq (pv 1) pe_str (nomark _)) (pss_one (ps_ret (pe_cmpR op_eq (pv 0) (pe_ix ix_list (pv 2) (pe_un un_neg pe_int) (fun _ _ => rfl)) (nomark _)))) pss_nil)
      (pss_one (ps_ret (pe_cmpR op_eq (pv 0) (pv 1) (nomark _))))), ?_⟩
    refine ⟨_, rfl, rfl, _, rfl, ?_⟩
    rw [dec_str]
    by_cases e1 : wd = "some"
    · subst e1
      refine ⟨_, rfl, by show 2 ≤ sizeLine; decide, fun q nq => ?_⟩
      refine ⟨q, _, rfl, .inr (SqT.of upd_same), rfl, rfl, ?_⟩
      exact k _ fun b o e => by rw [upd_ne (ne_of_none e nq)]; exact e
    rw [beq_false_of_ne e1]
    refine iteF ?_
    refine ⟨_, rfl, rfl, _, rfl, ?_⟩
    rw [dec_str]
    by_cases e2 : wd = "alike"
    · subst e2
      obtain ⟨m, z, rfl⟩ := hn rfl
      refine ⟨_, rfl, _, rfl, _, rfl, a, _, -1, .str z, rfl, rfl, hl, by rw [List.map_append]; exact atI_last _ _, rfl, ?_⟩
      have e : isWantedD so "alike" (m ++ [z]) = decide (V.str so = V.str z) := by
        show (if ("alike" : Str) = "some" then _ else if ("alike" : Str) = "alike" then some so == (m ++ [z]).getLast? else _) = _
        rw [if_neg e1, if_pos rfl, List.getLast?_concat, dec_str]
        rfl
      rw [e] at k
      exact k _ (Same.refl _)
    rw [beq_false_of_ne e2]
    refine iteF ?_
    refine ⟨_, rfl, _, rfl, rfl, ?_⟩
    have e : isWantedD so wd ah = decide (V.str so = V.str wd) := by
      unfold isWantedD
      rw [if_neg e1, if_neg e2, dec_str]
    rw [e] at k
    exact k _ (Same.refl _)
/-! ### what a term gives -/
def givens : List (Str × Str) := [("number", "num"), ("skip", "do"), ("sum", "num"), ("less", "num"), ("same", "num"), ("below", "num"), ("not", "num"), ("while", "do"), ("get", "num"), ("set", "do"), ("made", "box"), ("claim", "do")]
structure GivenTop (K : PySem.W.Frag) (w : World) (mg : Str → Option Value) (dG : Addr) (es : Array DictEntry) (n : Nat) : Prop where
  mG : mg "GIVEN" = some (.ref dG)
  kd : KDict K w dG es n
  at_ : ∀ z, (givens.lookup z = none ∧ PySem.W.nsIn K dG z = some none) ∨ ∃ g t, givens.lookup z = some g ∧ PySem.W.nsIn K dG z = some (some (.str g t))
def givenD (l : NmL) (sorts : List Str) : List PyData → Option Str
  | .str x :: ds => if x = "name" then (match ds with | .str y :: _ => (l.lookup y).map (·.2) | _ => none) else if x = "never" then (match ds with | .str g :: _ => some g | _ => none) else match givens.lookup x with
    | some g => some g
    | none => sorts.getLast?
  | _ => none
def spSortGiven (K : PySem.W.Frag) : Sp := fun vs H Q _ => ∃ (a t b : Addr) (l : NmL) (xs : List V) (ds : List PyData) (sorts : List Str) (g : Str), vs = [.ref a, .ref t, .ref b] ∧ NmD K H a l ∧ SqT K H t xs ∧ DpAll K H xs ds ∧ SqL K H b (sorts.map V.str) ∧ givenD l sorts ds = some g ∧ Q (.str g) H
theorem ok_sortGiven {f dG : Addr} {fd : FuncData} {eg : Array DictEntry} {nG : Nat} (F : Fun K "_sort_given" "_sort_given" sSortGiven f fd) (TG : GivenTop K w mg dG eg nG) : FnOk P w K mg base CX0 1 f fd ["names", "term", "sorts"] (spSortGiven K) := by
  refine F.ok scSortGiven (fun vs H Q E h => ?_) (fun cdv A outer s H vs Q E hr h => ?_)
  · obtain ⟨a, t, b, l, xs, ds, so, g, rfl, _⟩ := h
    rfl
  · obtain ⟨a, t, b, l, xs, ds, so, g, rfl, hn, ht, hs, hb, hg, k⟩ := h
    have hu := hu_of hr
    refine ⟨_, pss_cons (ps_if (pt_cmpR op_eq (pe_ix ix_tup (pv 1) pe_int (fun _ _ => rfl)) pe_str (nomark _)) (pss_one (ps_ret (pe_ix ix_tup (pe_dget hu (pv 0) (pe_ix ix_tup (pv 1) pe_int (fun _ _ => rfl)) (fun _ _ => rfl)) pe_int (fun _ _ => rfl)))) pss_nil)
      (pss_cons (ps_if (pt_cmpR op_eq (pe_ix ix_tup (pv 1) pe_int (fun _ _ => rfl)) pe_str (nomark _)) (pss_one (ps_ret (pe_ix ix_tup (pv 1) pe_int (fun _ _ => rfl)))) pss_nil)
      (pss_cons (ps_if (pt_cmpR (op_in_kd TG.kd) (pe_ix ix_tup (pv 1) pe_int (fun _ _ => rfl)) (pe_glob (v := V.ref dG) (by rfl) TG.mG rfl) (by rfl)) (pss_one (ps_ret (pe_ix ix_kdict (pe_glob (v := V.ref dG) (by rfl) TG.mG rfl) (pe_ix ix_tup (pv 1) pe_int (fun _ _ => rfl)) (fun _ _ => rfl)))) pss_nil)
      (pss_one (ps_ret (pe_ix ix_list (pv 2) (pe_un un_neg pe_int) (fun _ _ => rfl)))))), ?_⟩
    cases hs with
    | nil => cases hg
    | @cons x0 xs d0 ds h0 hs =>
    cases d0 with
    | str x =>
      cases h0
      refine ⟨_, rfl, t, _, 0, _, rfl, rfl, ht, atI_nat (j := 0) rfl, rfl, _, rfl, ?_⟩
      rw [dec_str]
      by_cases e1 : x = "name"
      · subst e1
        cases hs with
        | nil => cases hg
        | @cons x1 xs d1 ds h1 hs =>
        cases d1 with
        | str y =>
          cases h1
          have hg' : (l.lookup y).map (·.2) = some g := hg
          obtain ⟨kvs, ek, hk, hv⟩ := hn
          rcases val_look y hk hv with ⟨a1, _⟩ | ⟨ts, g', v, a1, a2, a3⟩
          · rw [a1] at hg'
            cases hg'
          rw [a1] at hg'
          obtain rfl : g' = g := Option.some.inj hg'
          obtain ⟨⟩ | ⟨⟩ | ⟨⟩ | ⟨⟩ | ⟨⟩ | @⟨b2, zs, _, hb2, hs2⟩ := a3
          obtain _ | @⟨z0, _, _, _, g0, hs2⟩ := hs2
          obtain _ | @⟨z1, _, _, _, g1, hs2⟩ := hs2
          cases hs2
          cases g1
          refine ⟨_, rfl, _, rfl, t, _, 1, _, rfl, rfl, ht, atI_nat (j := 1) rfl, a, .ref b2, rfl, ?_, b2, _, 1, _, rfl, rfl, hb2, atI_nat (j := 1) rfl, k⟩
          rw [← a2]
          exact DGet.k (k := (.inr y : Key)) ek
        | _ => cases hg
      rw [beq_false_of_ne e1]
      refine iteF ?_
      refine ⟨_, rfl, t, _, 0, _, rfl, rfl, ht, atI_nat (j := 0) rfl, rfl, _, rfl, ?_⟩
      rw [dec_str]
      by_cases e2 : x = "never"
      · subst e2
        cases hs with
        | nil => cases hg
        | @cons x1 xs d1 ds h1 hs =>
        cases d1 with
        | str y =>
          cases h1
          have hg' : some y = some g := hg
          obtain rfl := Option.some.inj hg'
          exact ⟨_, rfl, t, _, 1, _, rfl, rfl, ht, atI_nat (j := 1) rfl, k⟩
        | _ => cases hg
      rw [beq_false_of_ne e2]
      refine iteF ?_
      have hg' : (match givens.lookup x with | some g => some g | none => so.getLast?) = some g := by
        have z : givenD l so (.str x :: ds) = some g := hg
        simp only [givenD] at z
        rw [if_neg e1, if_neg e2] at z
        exact z
      rcases TG.at_ x with ⟨fx, ex⟩ | ⟨g2, tk, fx, ex⟩
      · refine ⟨_, rfl, t, _, 0, _, rfl, rfl, ht, atI_nat (j := 0) rfl, x, _, rfl, rfl, ex, _, rfl, ?_⟩
        refine iteF ?_
        rw [fx] at hg'
        obtain ⟨m, rfl⟩ : ∃ m, so = m ++ [g] := by
          have z : so.getLast? = some g := hg'
          obtain ⟨m, e⟩ := List.getLast?_eq_some_iff.mp z
          exact ⟨m, e⟩
        exact ⟨_, rfl, _, rfl, b, _, -1, .str g, rfl, rfl, hb, by rw [List.map_append]; exact atI_last _ _, k⟩
      · refine ⟨_, rfl, t, _, 0, _, rfl, rfl, ht, atI_nat (j := 0) rfl, x, _, rfl, rfl, ex, _, rfl, ?_⟩
        refine iteT ?_
        rw [fx] at hg'
        obtain rfl := Option.some.inj hg'
        exact ⟨_, rfl, t, _, 0, _, rfl, rfl, ht, atI_nat (j := 0) rfl, dG, x, .str g2, rfl, rfl, ⟨eg, nG, .str g2 tk, TG.kd.at_, TG.kd.lit, ex, ⟨tk, rfl⟩⟩, k⟩
    | _ => cases hg
end
end Jd
/-! What a term's parts are, and what is wanted of them. -/
namespace Jd
open PySem PySem.Spec PyProof.Rows L2 RZ
section
variable {P : Program} {w : World} {K : PySem.W.Frag} {mg : Str → Option Value} {base : Heap} {H : Hp} {aP dF dP : Addr} {es ep : Array DictEntry} {nF nP : Nat}
/-! ### _wanted_sorts -/
def noTerm : List V := [.str "figure", .str "word", .str "ending"]
def isTermB (x : Str) : Bool := !inV (.str x) noTerm
/-- a list of some of the items of another: those that have come so far -/
theorem filter_take {l : List Str} {i : Nat} {x : Str} (h : l[i]? = some x) : (l.take (i + 1)).filter isTermB = (l.take i).filter isTermB ++ (if isTermB x = true then [x] else []) := by
  rw [List.take_add_one, h, List.filter_append]
  show _ ++ List.filter isTermB [x] = _
  by_cases e : isTermB x = true
  · rw [if_pos e]
    simp [e]
  · rw [if_neg e]
    simp [e]
/-- what is wanted of the parts: the sorts that the name takes, or what stands behind the word -/
inductive WantAt (K : PySem.W.Frag) (H : Hp) (l : NmL) : List PyData → Addr → Prop
  | name {y : Str} {ds : List PyData} {ts : List PyData} {g : Str} {b : Addr} {zs : List V} (e : l.lookup y = some (ts, g)) (hb : SqT K H b zs) (hs : DpAll K H zs ts) : WantAt K H l (.str "name" :: .str y :: ds) b
  | word {x : Str} {ds : List PyData} {ws : List Str} {b : Addr} (n : x ≠ "name") (e : forms.lookup x = some ws) (hb : H b = some (.lst ((ws.filter isTermB).map V.str))) : WantAt K H l (.str x :: ds) b
/-- the term's word: a name that is used, or one of the forms -/
def wordOk (l : NmL) : List PyData → Prop
  | .str x :: ds => (x = "name" ∧ ∃ y r ts g, ds = .str y :: r ∧ l.lookup y = some (ts, g)) ∨ (x ≠ "name" ∧ ∃ ws, forms.lookup x = some ws)
  | _ => False
def spWantedSorts (K : PySem.W.Frag) : Sp := fun vs H Q _ => ∃ (a t : Addr) (l : NmL) (xs : List V) (ds : List PyData), vs = [.ref a, .ref t] ∧ NmD K H a l ∧ SqT K H t xs ∧ DpAll K H xs ds ∧ wordOk l ds ∧ ∀ b H', Same H H' → WantAt K H' l ds b → Q (.ref b) H'
theorem ok_wantedSorts {f : Addr} {fd : FuncData} (F : Fun K "_wanted_sorts" "_wanted_sorts" sWantedSorts f fd) (TF : FormTop K w mg dF es nF) : FnOk P w K mg base CX0 1 f fd ["names", "term"] (spWantedSorts K) := by
  refine F.ok scWantedSorts (fun vs H Q E h => ?_) (fun cdv A outer s H vs Q E hr h => ?_)
  · obtain ⟨a, t, l, xs, ds, rfl, _⟩ := h
    rfl
  · obtain ⟨a, t, l, xs, ds, rfl, hn, ht, hs, hw, k⟩ := h
    have nd := scWantedSorts.nd
    have hu := hu_of hr
    refine ⟨_, pss_cons (ps_if (pt_cmpR op_eq (pe_ix ix_tup (pv 1) pe_int (fun _ _ => rfl)) pe_str (nomark _)) (pss_one (ps_ret (pe_ix ix_tup (pe_dget hu (pv 0) (pe_ix ix_tup (pv 1) pe_int (fun _ _ => rfl)) (fun _ _ => rfl)) pe_int (fun _ _ => rfl)))) pss_nil)
      (pss_one (ps_ret (pe_lc (own := [("wanted", 2)]) (g := gName 2) rfl nd (pi_tup (pe_ix ix_kdict (pe_glob (v := V.ref dF) (by rfl) TF.mF rfl) (pe_ix ix_tup (pv 1) pe_int (fun _ _ => rfl)) (fun _ _ => rfl)))
        (blkOk_by (N := ["names", "term", "wanted"]) (sc := defScope sWantedSorts) (by decide +kernel)) (fun _ _ _ _ _ => pg_name (i := 2) nd rfl (Or.inl rfl))
        (fun _ _ _ _ _ => pts_one (pt_cmpR (show OpR _ _ (rIn K true) from op_notIn_seq) (pv 2) (pe_tup (pa_cons pe_str (pa_cons pe_str (pa_cons pe_str pa_nil)))) (by rfl))) (fun _ _ _ _ _ => pv 2)))), ?_⟩
    cases hs with
    | nil => exact hw.elim
    | @cons x0 xs d0 ds h0 hs =>
    cases d0 with
    | str x =>
      cases h0
      refine ⟨_, rfl, t, _, 0, _, rfl, rfl, ht, atI_nat (j := 0) rfl, rfl, _, rfl, ?_⟩
      rw [dec_str]
      rcases hw with ⟨rfl, y, r, ts, g, rfl, ey⟩ | ⟨nx, ws, ew⟩
      · obtain _ | @⟨x1, _, _, _, h1, hs⟩ := hs
        cases h1
        obtain ⟨kvs, ek, hk, hv⟩ := id hn
        rcases val_look y hk hv with ⟨a1, _⟩ | ⟨ts', g', v, a1, a2, a3⟩
        · rw [a1] at ey
          cases ey
        obtain ⟨⟩ | ⟨⟩ | ⟨⟩ | ⟨⟩ | ⟨⟩ | @⟨b2, zs, _, hb2, hs2⟩ := a3
        obtain _ | @⟨z0, _, _, _, g0, hs2⟩ := hs2
        obtain ⟨⟩ | ⟨⟩ | ⟨⟩ | ⟨⟩ | ⟨⟩ | @⟨b3, us, _, hb3, hs3⟩ := g0
        refine ⟨_, rfl, _, rfl, t, _, 1, _, rfl, rfl, ht, atI_nat (j := 1) rfl, a, .ref b2, rfl, ?_, b2, _, 0, _, rfl, rfl, hb2, atI_nat (j := 0) rfl, k _ _ (Same.refl _) (.name a1 hb3 hs3)⟩
        rw [← a2]
        exact DGet.k (k := (.inr y : Key)) ek
      · rw [beq_false_of_ne nx]
        refine iteF ?_
        rcases TF.at_ x with ⟨fx, _⟩ | ⟨ws', af, fx, ex, hwf⟩
        · rw [fx] at ew
          cases ew
        rw [fx] at ew
        obtain rfl := Option.some.inj ew
        refine ⟨_, rfl, t, _, 0, _, rfl, rfl, ht, atI_nat (j := 0) rfl, dF, x, .ref af, rfl, rfl, ⟨es, nF, .ref af, TF.kd.at_, TF.kd.lit, ex, rfl⟩, af, rfl, ⟨_, hwf H⟩, fun D nD => ?_⟩
        have sD : ∀ {H' : Hp} {o : HO}, Same H H' → Same H (upd H' D o) := fun z b o e => by
          rw [upd_ne (ne_of_none e nD)]
          exact z _ _ e
        have hl3 : ws'.length ≤ 3 := forms_len _ (PySem.mem_of_lookup fx)
        refine lc_tup (K := K) (a := af) (xs := ws'.map V.str) (fun i H' => Same H H' ∧ H' D = some (.lst (((ws'.take i).filter isTermB).map V.str))) ⟨sD (Same.refl _), upd_same⟩ (fun i H' _ _ => hwf H') ?_ ?_
        · rintro i y H' hy ⟨z, e1⟩
          rw [List.getElem?_map] at hy
          cases eu : ws'[i]? with
          | none => rw [eu] at hy; cases hy
          | some u =>
            rw [eu] at hy
            obtain rfl := Option.some.inj hy
            refine ⟨rfl, ?_⟩
            refine ⟨_, rfl, by show 3 ≤ sizeLine; decide, fun q nq => ?_⟩
            have s3 : Same H' (upd H' q (.tup noTerm)) := fun b o e => by rw [upd_ne (ne_of_none e nq)]; exact e
            have h3 : (upd H' q (.tup noTerm)) q = some (.tup noTerm) := upd_same
            have e3 := s3 _ _ e1
            show rIn K true (.str u) (.ref q) (upd H' q (.tup noTerm)) _
            generalize upd H' q (.tup noTerm) = H3 at s3 h3 e3 ⊢
            refine ⟨q, _, rfl, .inr (SqT.of h3), rfl, rfl, _, rfl, ?_⟩
            have ft := filter_take (l := ws') eu
            show if isTermB u = true then _ else _
            by_cases tu : isTermB u = true
            · rw [if_pos tu] at ft ⊢
              refine ⟨_, rfl, _, e3, ?_, sD (z.trans s3), ?_⟩
              · rw [List.length_map]
                refine small1000 (Nat.le_trans (List.length_filter_le _ _) ?_)
                rw [List.length_take]
                omega
              · rw [upd_same, ft, List.map_append]
                rfl
            · rw [if_neg tu] at ft ⊢
              refine ⟨z.trans s3, ?_⟩
              rw [ft, List.append_nil]
              exact e3
        · rintro H' ⟨z, e1⟩
          rw [List.length_map, List.take_length] at e1
          exact k _ _ z (.word nx fx e1)
    | _ => exact hw.elim
end
end Jd
/-! part_paths of shapes.py. -/
namespace Jd
open PySem PySem.Spec PyProof.Rows L2 RZ
def partsT : List (Str × List Int) :=
  [("number", []), ("skip", []), ("never", []), ("sum", [1, 2]), ("less", [1, 2]), ("same", [1, 2]), ("below", [1, 2]), ("not", [1]), ("then", [1, 2]), ("if", [1, 2, 3]), ("while", [1, 2]), ("get", [1]), ("set", [1, 2]), ("new", [3]), ("made", [1, 3]), ("claim", [1])]
theorem parts_len : ∀ q ∈ partsT, q.2.length ≤ 3 := by decide +kernel
structure PartTop (K : PySem.W.Frag) (w : World) (mg : Str → Option Value) (dP : Addr) (es : Array DictEntry) (n : Nat) : Prop where
  mP : mg "PARTS" = some (.ref dP)
  at_ : ∀ z ps, partsT.lookup z = some ps → ∃ a, KDct K w dP z (.ref a) ∧ ∀ H : Hp, SqT K H a (ps.map V.int)
  range : mg "range" = none
  len : mg "len" = none
/-- the ways to a term's parts -/
def pathsD : List PyData → Option (List (List Int))
  | .str x :: ds => if x = "name" then (match ds with | [_, .tuple as] => some ((List.range as.length).map fun i => [2, ((i : Nat) : Int)]) | _ => none) else (partsT.lookup x).map fun ps => ps.map fun i => [i]
  | _ => none
/-- a list of paths, each a tuple of numbers -/
def PathsAt (H : Hp) (D : Addr) (ps : List (List Int)) : Prop :=
  ∃ as : List Addr, H D = some (.lst (as.map V.ref)) ∧ as.length = ps.length ∧ ∀ (j : Nat) (a : Addr) (p : List Int), as[j]? = some a → ps[j]? = some p → H a = some (.tup (p.map V.int))
section
variable {P : Program} {w : World} {K : PySem.W.Frag} {mg : Str → Option Value} {base : Heap} {H : Hp} {dP : Addr} {ep : Array DictEntry} {nP : Nat}
theorem PathsAt.nil {D : Addr} (h : H D = some (.lst [])) : PathsAt H D [] := ⟨[], h, rfl, fun j a p e => by simp at e⟩
theorem PathsAt.snoc {D T : Addr} {ps : List (List Int)} {p : List Int} (h : PathsAt H D ps) (nT : H T = none) : ∃ acc, (upd H T (.tup (p.map V.int))) D = some (.lst acc) ∧ acc.length = ps.length ∧ PathsAt (upd (upd H T (.tup (p.map V.int))) D (.lst (acc ++ [.ref T]))) D (ps ++ [p]) := by
  obtain ⟨as, e, hl, ha⟩ := h
  have dT : D ≠ T := ne_of_none e nT
  refine ⟨as.map V.ref, by rw [upd_ne dT]; exact e, by rw [List.length_map]; exact hl, as ++ [T], by rw [upd_same, List.map_append]; rfl, by simp [hl], fun j a q h1 h2 => ?_⟩
  by_cases hj : j < as.length
  · rw [List.getElem?_append_left hj] at h1
    rw [List.getElem?_append_left (by rw [← hl]; exact hj)] at h2
    have z := ha j a q h1 h2
    rw [upd_ne (ne_of z e (by intro y; cases y)), upd_ne (ne_of_none z nT)]
    exact z
  · have ej : j = as.length := by
      have := (List.getElem?_eq_some_iff.mp h1).1
      simp at this
      omega
    subst ej
    have h1' : some T = some a := by simpa using h1
    have h2' : some p = some q := by rw [hl] at h2; simpa using h2
    cases h1'
    cases h2'
    rw [upd_ne dT.symm, upd_same]
theorem scPaths' : FnScope ["term", "at"] ["term"] (defScope sPaths) := scPaths
def spPaths (K : PySem.W.Frag) : Sp := fun vs H Q _ => ∃ (t : Addr) (xs : List V) (ds : List PyData) (ps : List (List Int)), vs = [.ref t] ∧ SqT K H t xs ∧ DpAll K H xs ds ∧ pathsD ds = some ps ∧ ps.length ≤ 1000 ∧ ∀ b H', Same H H' → PathsAt H' b ps → Q (.ref b) H'
theorem ok_paths {f : Addr} {fd : FuncData} (F : Fun K "part_paths" "part_paths" sPaths f fd) (TP : PartTop K w mg dP ep nP) : FnOk P w K mg base CX0 1 f fd ["term"] (spPaths K) := by
  refine F.ok scPaths (fun vs H Q E h => ?_) (fun cdv A outer s H vs Q E hr h => ?_)
  · obtain ⟨t, xs, ds, ps, rfl, _⟩ := h
    rfl
  · obtain ⟨t, xs, ds, ps, rfl, ht, hs, hp, hlen, k⟩ := h
    have nd := scPaths.nd
    refine ⟨_, pss_cons (ps_if (pt_cmpR op_eq (pe_ix ix_tup (pv 0) pe_int (fun _ _ => rfl)) pe_str (nomark _))
        (pss_one (ps_ret (pe_lc (own := [("at", 1)]) (g := gName 1) rfl nd (pi_range1 (by rfl) TP.range (pa_cons (pe_callB call_len_seq (by rfl) TP.len PySem.boot_len (pa_cons (pe_ix ix_tup (pv 0) pe_int (fun _ _ => rfl)) pa_nil)) pa_nil))
          (blkOk_by (N := ["term", "at"]) (sc := defScope sPaths) (by decide +kernel)) (fun _ _ _ _ _ => pg_name (i := 1) nd rfl (Or.inl rfl)) (fun _ _ _ _ _ => pts_nil) (fun _ _ _ _ _ => pe_tup (pa_cons pe_int (pa_cons (pv 1) pa_nil)))))) pss_nil)
      (pss_one (ps_ret (pe_lc (own := [("at", 1)]) (g := gName 1) rfl nd (pi_tup (pe_ix ix_kdict (pe_glob (v := V.ref dP) (by rfl) TP.mP rfl) (pe_ix ix_tup (pv 0) pe_int (fun _ _ => rfl)) (fun _ _ => rfl)))
        (blkOk_by (N := ["term", "at"]) (sc := defScope sPaths) (by decide +kernel)) (fun _ _ _ _ _ => pg_name (i := 1) nd rfl (Or.inl rfl)) (fun _ _ _ _ _ => pts_nil) (fun _ _ _ _ _ => pe_tup (pa_cons (pv 1) pa_nil))))), ?_⟩
    cases hs with
    | nil => cases hp
    | @cons x0 xs d0 ds h0 hs =>
    cases d0 with
    | str x =>
      cases h0
      refine ⟨_, rfl, t, _, 0, _, rfl, rfl, ht, atI_nat (j := 0) rfl, rfl, _, rfl, ?_⟩
      rw [dec_str]
      by_cases e1 : x = "name"
      · subst e1
        cases hs with
        | nil => cases hp
        | @cons x1 xs d1 ds h1 hs =>
        cases hs with
        | nil => cases hp
        | @cons x2 xs d2 ds h2 hs =>
        cases hs with
        | cons _ _ =>
          simp [pathsD] at hp
        | nil =>
        cases d2 with
        | tuple as =>
          obtain ⟨⟩ | ⟨⟩ | ⟨⟩ | ⟨⟩ | ⟨⟩ | @⟨b, ys, _, hb, hs2⟩ := h2
          have hp' : some ((List.range as.length).map fun i => [2, ((i : Nat) : Int)]) = some ps := hp
          obtain rfl := Option.some.inj hp'
          have ly := dps_len hs2
          have ln : as.length ≤ 1000 := by simpa using hlen
          refine ⟨_, rfl, t, _, 2, _, rfl, rfl, ht, atI_nat (j := 2) rfl, b, ys, rfl, .inr hb, ((ys.length : Nat) : Int), rfl, by omega, by omega, fun D nD => ?_⟩
          have sD : ∀ {H' : Hp} {o : HO}, Same H H' → Same H (upd H' D o) := fun z b o e => by
            rw [upd_ne (ne_of_none e nD)]
            exact z _ _ e
          refine lc_range (lo := 0) (n := ys.length) (fun i H' => Same H H' ∧ PathsAt H' D ((List.range i).map fun i => [2, ((i : Nat) : Int)])) ⟨sD (Same.refl _), PathsAt.nil upd_same⟩ ?_ ?_
          · rintro i H' hi ⟨z, pa⟩
            refine ⟨rfl, ?_⟩
            rw [Int.zero_add]
            refine ⟨_, rfl, by show 2 ≤ sizeLine; decide, fun N nN => ?_⟩
            obtain ⟨acc, ea, la, pn⟩ := pa.snoc (p := [2, ((i : Nat) : Int)]) nN
            refine ⟨acc, ea, ?_, sD fun b o e => by rw [upd_ne (ne_of_none (z _ _ e) nN)]; exact z _ _ e, ?_⟩
            · rw [la, List.length_map, List.length_range]
              exact small1000 (by omega)
            · rw [List.range_succ, List.map_append]
              exact pn
          · rintro H' ⟨z, pa⟩
            rw [ly] at pa
            exact k _ _ z pa
        | _ => simp [pathsD] at hp
      rw [beq_false_of_ne e1]
      refine iteF ?_
      have hp' : ((partsT.lookup x).map fun ps => ps.map fun i => [i]) = some ps := by
        have z : pathsD (.str x :: ds) = some ps := hp
        simp only [pathsD] at z
        rw [if_neg e1] at z
        exact z
      cases e0 : partsT.lookup x with
      | none => rw [e0] at hp'; cases hp'
      | some is =>
      rw [e0] at hp'
      obtain rfl := Option.some.inj hp'
      obtain ⟨ad, kd, hw⟩ := TP.at_ x is e0
      have hl3 : is.length ≤ 3 := parts_len _ (PySem.mem_of_lookup e0)
      refine ⟨_, rfl, t, _, 0, _, rfl, rfl, ht, atI_nat (j := 0) rfl, dP, x, .ref ad, rfl, rfl, kd, ad, rfl, ⟨_, hw H⟩, fun D nD => ?_⟩
      have sD : ∀ {H' : Hp} {o : HO}, Same H H' → Same H (upd H' D o) := fun z b o e => by
        rw [upd_ne (ne_of_none e nD)]
        exact z _ _ e
      refine lc_tup (K := K) (a := ad) (xs := is.map V.int) (fun i H' => Same H H' ∧ PathsAt H' D ((is.take i).map fun i => [i])) ⟨sD (Same.refl _), PathsAt.nil upd_same⟩ (fun i H' _ _ => hw H') ?_ ?_
      · rintro i y H' hy ⟨z, pa⟩
        rw [List.getElem?_map] at hy
        cases eu : is[i]? with
        | none => rw [eu] at hy; cases hy
        | some u =>
          rw [eu] at hy
          obtain rfl := Option.some.inj hy
          refine ⟨rfl, ?_⟩
          refine ⟨_, rfl, by show 1 ≤ sizeLine; decide, fun N nN => ?_⟩
          obtain ⟨acc, ea, la, pn⟩ := pa.snoc (p := [u]) nN
          refine ⟨acc, ea, ?_, sD fun b o e => by rw [upd_ne (ne_of_none (z _ _ e) nN)]; exact z _ _ e, ?_⟩
          · rw [la, List.length_map, List.length_take]
            exact small1000 (by omega)
          · rw [← take_map_snoc (fun i => [i]) eu]
            exact pn
      · rintro H' ⟨z, pa⟩
        rw [List.length_map, List.take_length] at pa
        exact k _ _ z pa
    | _ => cases hp
end
end Jd
/-! _sort_at of terms.py at a term without parts. -/
namespace Jd
open PySem PySem.Spec PyProof.Rows L2 RZ
abbrev sSortAt : Stmt := top 38
abbrev saN : List Str := ["look", "names", "term", "at", "depth", "wanted", "sorts", "number", "path", "inner", "sort"]
theorem scSortAt : FnScope saN ["look", "names", "term", "at", "depth"] (defScope sSortAt) := ⟨rfl, rfl, rfl, by decide +kernel, rfl, by decide +kernel, by decide +kernel⟩
/-- a promise of what is never called -/
def spNever : Sp := fun _ _ _ _ => False
section
variable {P : Program} {w : World} {K : PySem.W.Frag} {mg : Str → Option Value} {base : Heap} {H : Hp} {aP dF dG dP cT fT C : Addr} {es eg ep : Array DictEntry} {nF nG nP : Nat}
theorem fnNever {CX : CXT} {j : Nat} {f : Addr} {fd : FuncData} {ps : List Str} : FnOk P w K mg base CX j f fd ps spNever := ⟨fun _ _ _ _ h => h.elim, fun _ _ _ _ _ _ _ _ _ _ _ _ _ h => h.elim⟩
/-- an instance written: lists and tuples stand elsewhere -/
theorem dps_ins {a dx : Addr} {fs : List (Str × V)} {o : HO} (e : H a = some (.ins C dx fs)) {ds : List PyData} {vs : List V} (h : DpAll K H vs ds) : DpAll K (upd H a o) vs ds := by
  refine (dp_of (fun b xs q => ?_) (fun b xs q => ?_)).2 h
  · rcases q with (q | ⟨u, q⟩) | q
    · exact .inl (.inl (by rw [upd_ne (ne_of q e (by intro z; cases z))]; exact q))
    · exact .inl (.inr ⟨u, by rw [upd_ne (ne_of q e (by intro z; cases z))]; exact q⟩)
    · exact .inr q
  · rcases q with (q | ⟨u, q⟩) | q
    · exact .inl (.inl (by rw [upd_ne (ne_of q e (by intro z; cases z))]; exact q))
    · exact .inl (.inr ⟨u, by rw [upd_ne (ne_of q e (by intro z; cases z))]; exact q⟩)
    · exact .inr q
theorem sqT_ins {a b dx : Addr} {fs : List (Str × V)} {o : HO} {xs : List V} (e : H a = some (.ins C dx fs)) (q : SqT K H b xs) : SqT K (upd H a o) b xs := by
  rcases q with (q | ⟨u, q⟩) | q
  · exact .inl (.inl (by rw [upd_ne (ne_of q e (by intro z; cases z))]; exact q))
  · exact .inl (.inr ⟨u, by rw [upd_ne (ne_of q e (by intro z; cases z))]; exact q⟩)
  · exact .inr q
/-- what the top has written of Look and the bounds -/
structure LookTop (P : Program) (K : PySem.W.Frag) (mg : Str → Option Value) (C cT fT : Addr) : Prop where
  cl : Cls K C
  nS : NoAttr K C "size"
  nN : NoAttr K C "nodes"
  mT : mg "BadTerm" = some (.ref cT)
  tT : Er.ErrTxt P K mg cT fT "at"
  mD : ∃ t, mg "MOST_DEPTH" = some (.int 12 t)
  mM : ∃ t, mg "MOST_NODES" = some (.int 60 t)
  enum : mg "enumerate" = none
def spSortAt0 (K : PySem.W.Frag) (C : Addr) : Sp := fun vs H Q _ => ∃ (u a t q dx : Addr) (fs : List (Str × V)) (n c dep : Int) (l : NmL) (xs : List V) (ds : List PyData) (g : Str), vs = [.ref u, .ref a, .ref t, .ref q, .int dep] ∧ H u = some (.ins C dx fs) ∧ fs.lookup ("size" : Str) = some (.int n) ∧ fs.lookup ("nodes" : Str) = some (.int c) ∧ fs.length < 900 ∧
  dep ≤ 12 ∧ c + 1 ≤ 60 ∧ NmD K H a l ∧ SqT K H t xs ∧ DpAll K H xs ds ∧ (∀ x, .str x ∈ ds → x.length ≤ sizeLine) ∧ formD n l (.tuple ds) = true ∧ wordOk l ds ∧ pathsD ds = some [] ∧ givenD l [] ds = some g ∧ ∀ H', (∀ b o, b ≠ u → H b = some o → H' b = some o) → Q (.str g) H'
theorem ok_sortAt0 {f fF fW fP fI fG fN fA : Addr} {fd dFm dW dPt dI dGv dN dA : FuncData} (F : Fun K "_sort_at" "_sort_at" sSortAt f fd) (L : LookTop P K mg C cT fT) (mS : mg "_sort_at" = some (.ref f)) (bS : Binds K fd ["look", "names", "term", "at", "depth"] [])
    (GF : FnOk P w K mg base CX0 4 fF dFm ["size", "names", "term"] (spForm K)) (kF : PySem.W.keepIn K (.ref fF) = true) (bF : Binds K dFm ["size", "names", "term"] []) (mF : mg "_has_form" = some (.ref fF))
    (GW : FnOk P w K mg base CX0 1 fW dW ["names", "term"] (spWantedSorts K)) (kW : PySem.W.keepIn K (.ref fW) = true) (bW : Binds K dW ["names", "term"] []) (mW : mg "_wanted_sorts" = some (.ref fW))
    (GP : FnOk P w K mg base CX0 1 fP dPt ["term"] (spPaths K)) (kP : PySem.W.keepIn K (.ref fP) = true) (bP : Binds K dPt ["term"] []) (mP : mg "part_paths" = some (.ref fP))
    (kI : PySem.W.keepIn K (.ref fI) = true) (bI : Binds K dI ["sort", "wanted", "ahead"] []) (mI : mg "_is_wanted" = some (.ref fI))
    (GG : FnOk P w K mg base CX0 1 fG dGv ["names", "term", "sorts"] (spSortGiven K)) (kG : PySem.W.keepIn K (.ref fG) = true) (bG : Binds K dGv ["names", "term", "sorts"] []) (mG : mg "_sort_given" = some (.ref fG))
    (kN : PySem.W.keepIn K (.ref fN) = true) (bN : Binds K dN ["names", "term", "number"] []) (mN : mg "names_within" = some (.ref fN)) (kA : PySem.W.keepIn K (.ref fA) = true) (bA : Binds K dA ["term", "path"] []) (mA : mg "part_along" = some (.ref fA)) :
    FnOk P w K mg base CX0 5 f fd ["look", "names", "term", "at", "depth"] (spSortAt0 K C) := by
  refine F.ok scSortAt (fun vs H Q E h => ?_) (fun cdv A outer s H vs Q E hr h => ?_)
  · obtain ⟨u, a, t, q, dx, fs, n, c, dep, l, xs, ds, g, rfl, _⟩ := h
    rfl
  · obtain ⟨u, a, t, q, dx, fs, n, c, dep, l, xs, ds, g, rfl, hu, hsz, hnd, hfl, hdep, hc, hn, ht, hs, hz, hform, hword, hpath, hgiv, k⟩ := h
    have nd := scSortAt.nd
    have hr1 := hr.mono (show 1 ≤ 4 by decide)
    obtain ⟨tD, mD⟩ := L.mD
    obtain ⟨tM, mM⟩ := L.mM
    have GN : FnOk P w K mg base CX0 1 fN dN ["names", "term", "number"] spNever := fnNever
    have GA : FnOk P w K mg base CX0 1 fA dA ["term", "path"] spNever := fnNever
    have GS : FnOk P w K mg base CX0 1 f fd ["look", "names", "term", "at", "depth"] spNever := fnNever
    have GI : FnOk P w K mg base CX0 1 fI dI ["sort", "wanted", "ahead"] spNever := fnNever
    refine ⟨_, pss_cons (ps_fldaug (pv 0) pe_int in_add)
      (pss_cons (ps_if (PW.pt (pw_or (pt_cmpR op_gt (pv 4) (pe_glob (v := V.int 12) (by rfl) mD ⟨tD, rfl⟩) (nomark _)) (pw_or1 (pt_cmpR op_gt (pe_fld (pv 0) rfl) (pe_glob (v := V.int 60) (by rfl) mM ⟨tM, rfl⟩) (nomark _))))) (pss_one (ps_raise rfl takes0 (pmk_err L.tT hr (by rfl) L.mT (pv 3)))) pss_nil)
      (pss_cons (ps_if (pt_not (pt_val (pe_call GF hr rfl mF kF bF .nil pass0 (pa_cons (pe_fld (pv 0) rfl) (pa_cons (pv 1) (pa_cons (pv 2) pa_nil)))))) (pss_one (ps_raise rfl takes0 (pmk_err L.tT hr (by rfl) L.mT (pv 3)))) pss_nil)
      (pss_cons (ps_set (i := 5) nd rfl (Or.inl rfl) (pe_call GW hr1 rfl mW kW bW .nil pass0 (pa_cons (pv 1) (pa_cons (pv 2) pa_nil))))
      (pss_cons (ps_set (i := 6) nd rfl (Or.inl rfl) (pe_lst pa_nil))
      (pss_cons (ps_for PassesOwn.never rfl (pi_enum (by rfl) L.enum (pa_cons (pe_call GP hr1 rfl mP kP bP .nil pass0 (pa_cons (pv 2) pa_nil)) pa_nil)) (pg_tup (by rfl) (pgs_cons (pg_name (i := 7) nd rfl (Or.inl rfl)) (pgs_cons (pg_name (i := 8) nd rfl (Or.inl rfl)) pgs_nil)))
        (pss_cons (ps_set (i := 9) nd rfl (Or.inl rfl) (pe_call GN hr1 rfl mN kN bN .nil pass0 (pa_cons (pv 1) (pa_cons (pv 2) (pa_cons (pv 7) pa_nil)))))
        (pss_cons (ps_set (i := 10) nd rfl (Or.inl rfl) (pe_call GS hr1 rfl mS F.kp bS .nil pass0 (pa_cons (pv 0) (pa_cons (pv 9) (pa_cons (pe_call GA hr1 rfl mA kA bA .nil pass0 (pa_cons (pv 2) (pa_cons (pv 8) pa_nil))) (pa_cons (pe_op op_add (pv 3) (pv 8)) (pa_cons (pe_op op_add (pv 4) pe_int) pa_nil)))))))
        (pss_cons (ps_if (pt_not (pt_val (pe_call GI hr1 rfl mI kI bI .nil pass0 (pa_cons (pv 10) (pa_cons (pe_ix ix_tup (pv 5) (pv 7) (fun _ _ => rfl)) (pa_cons (pv 6) pa_nil)))))) (pss_one (ps_raise rfl takes0 (pmk_err L.tT hr (by rfl) L.mT (pe_op op_add (pv 3) (pv 8))))) pss_nil)
        (pss_one (ps_expr (pe_bm PySem.F.plainAttrs_list PySem.F.slot_list_append PySem.F.type_list_append mt_append (pv 6) (pa_cons (pv 10) pa_nil))))))))
      (pss_one (ps_ret (pe_call GG hr1 rfl mG kG bG .nil pass0 (pa_cons (pv 1) (pa_cons (pv 2) (pa_cons (pv 6) pa_nil))))))))))), ?_⟩
    -- look.nodes += 1
    refine ⟨_, rfl, u, C, dx, fs, .int c, rfl, hu, L.cl, L.nN, hnd, ?_⟩
    refine ⟨_, _, rfl, rfl, dx, fs, hu, by omega, ?_⟩
    have f1 : (putF "nodes" (.int (c + 1)) fs).lookup ("nodes" : Str) = some (.int (c + 1)) := by rw [lookup_putF, if_pos rfl]
    have f2 : (putF "nodes" (.int (c + 1)) fs).lookup ("size" : Str) = some (.int n) := by rw [lookup_putF, if_neg (by decide +kernel)]; exact hsz
    have hs1 : DpAll K (upd H u (.ins C dx (putF "nodes" (.int (c + 1)) fs))) xs ds := dps_ins hu hs
    have ht1 : SqT K (upd H u (.ins C dx (putF "nodes" (.int (c + 1)) fs))) t xs := sqT_ins hu ht
    have hn1 : NmD K (upd H u (.ins C dx (putF "nodes" (.int (c + 1)) fs))) a l := by
      obtain ⟨kvs, e, h1, h2⟩ := hn
      exact ⟨kvs, by rw [upd_ne (ne_of e hu (by intro z; cases z))]; exact e, h1, dps_ins hu h2⟩
    have hu1 : (upd H u (.ins C dx (putF "nodes" (.int (c + 1)) fs))) u = some (.ins C dx (putF "nodes" (.int (c + 1)) fs)) := upd_same
    have off : ∀ b o, b ≠ u → H b = some o → (upd H u (.ins C dx (putF "nodes" (.int (c + 1)) fs))) b = some o := fun b o hb e => by rw [upd_ne hb]; exact e
    generalize upd H u (.ins C dx (putF "nodes" (.int (c + 1)) fs)) = H1 at hs1 ht1 hn1 hu1 off ⊢
    -- depth > MOST_DEPTH or look.nodes > MOST_NODES
    refine ⟨_, rfl, _, _, rfl, rfl, _, rfl, ?_⟩
    rw [decide_eq_false (by omega : ¬ (12 : Int) < dep)]
    refine iteF ?_
    refine ⟨_, rfl, u, C, dx, _, _, rfl, hu1, L.cl, L.nN, f1, _, _, rfl, rfl, _, rfl, ?_⟩
    rw [decide_eq_false (by omega : ¬ (60 : Int) < c + 1)]
    refine iteF ?_
    -- _has_form(look.size, names, term)
    refine ⟨_, rfl, u, C, dx, _, _, rfl, hu1, L.cl, L.nS, f2, _, rfl, _, rfl, n, a, l, .ref t, .tuple ds, rfl, hn1, .tup ht1 hs1, fun ds' e x hx => ?_, fun H2 s2 => ⟨_, rfl, ?_⟩⟩
    · cases e
      exact hz x hx
    rw [hform]
    refine iteF ?_
    have hs2 := dps_same s2 hs1
    have ht2 := sqT_same s2 ht1
    refine ⟨_, rfl, _, rfl, a, t, l, xs, ds, rfl, hn1.same s2, ht2, hs2, hword, fun b H3 s3 _ => ?_⟩
    -- sorts = []
    refine ⟨Nat.zero_le _, fun so nso => ?_⟩
    have s4 : Same H3 (upd H3 so (.lst [])) := fun b o e => by rw [upd_ne (ne_of_none e nso)]; exact e
    have e4 : (upd H3 so (.lst [])) so = some (.lst []) := upd_same
    generalize upd H3 so (.lst []) = H4 at s4 e4 ⊢
    have s24 := s3.trans s4
    refine ⟨_, rfl, t, xs, ds, [], rfl, sqT_same s24 ht2, dps_same s24 hs2, hpath, by show 0 ≤ 1000; decide, fun pb H5 s5 pp => ?_⟩
    obtain ⟨as, eas, las, _⟩ := pp
    obtain rfl : as = [] := List.eq_nil_of_length_eq_zero las
    refine ⟨pb, [], rfl, SqL.of eas, ?_⟩
    have all5 : Same H1 H5 := (s2.trans s24).trans s5
    refine for_it (walk_enum (K := K) (a := pb) (xs := [])) (fun i σ H' => σ = (((start saN [V.ref u, V.ref a, V.ref t, V.ref q, V.int dep]).set 5 (some (V.ref b))).set 6 (some (V.ref so))) ∧ H' = H5) ⟨rfl, rfl⟩
      (fun i σ H' _ e => by rw [e.2]; exact SqL.of eas) (fun i x σ H' H'' hi => absurd hi (Nat.not_lt_zero _)) ?_
    rintro σ H' ⟨rfl, rfl⟩
    refine ⟨_, rfl, _, rfl, _, rfl, a, t, so, l, xs, ds, [], g, rfl, hn1.same all5, sqT_same all5 ht1, dps_same all5 hs1, SqL.of (s5 _ _ e4), hgiv, ?_⟩
    exact k _ fun b o hb e => all5 _ _ (off b o hb e)
end
end Jd
/-! Look and checked_sort of terms.py, at a term without parts. -/
namespace Jd
open PySem PySem.Spec PyProof.Rows L2 RZ
abbrev sLookInit : Stmt := inClass (top 34) 0
abbrev sChecked : Stmt := top 37
theorem scLookInit : FnScope ["self", "size"] ["self", "size"] (defScope sLookInit) := ⟨rfl, rfl, rfl, by decide +kernel, rfl, by decide +kernel, by decide +kernel⟩
theorem scChecked : FnScope ["size", "names", "term"] ["size", "names", "term"] (defScope sChecked) := ⟨rfl, rfl, rfl, by decide +kernel, rfl, by decide +kernel, by decide +kernel⟩
section
variable {P : Program} {w : World} {K : PySem.W.Frag} {mg : Str → Option Value} {base : Heap} {H : Hp} {cT fT C : Addr}
def lookF (n : Int) : List (Str × V) := putF "nodes" (.int 0) (putF "size" (.int n) [])
def spLookInit (C : Addr) : Sp := fun vs H Q _ => ∃ (H0 : Hp) (p dx : Addr) (n : Int), vs = [.ref p, .int n] ∧ Same H0 H ∧ H0 p = none ∧ H p = some (.ins C dx []) ∧ ∀ H' dx', Same H0 H' → H' p = some (.ins C dx' (lookF n)) → Q .non H'
theorem ok_lookInit {f : Addr} {fd : FuncData} (F : Fun K "__init__" "Look.__init__" sLookInit f fd) (L : LookTop P K mg C cT fT) : FnOk P w K mg base CX0 1 f fd ["self", "size"] (spLookInit C) := by
  refine F.ok scLookInit (fun vs H Q E h => ?_) (fun cdv A outer s H vs Q E hr h => ?_)
  · obtain ⟨H0, p, dx, n, rfl, _⟩ := h
    rfl
  · obtain ⟨H0, p, dx, n, rfl, s0, p0, hp, k⟩ := h
    refine ⟨_, pss_cons (ps_fld (pv 0) (pv 1) rfl) (pss_one (ps_fld (pv 0) pe_int rfl)), ?_⟩
    refine ⟨_, rfl, _, rfl, p, C, dx, [], rfl, hp, L.cl, L.nS, (by show 0 < 1000; decide), ?_⟩
    refine ⟨_, rfl, p, C, dx, _, rfl, upd_same, L.cl, L.nN, (by show 1 < 1000; decide), ?_⟩
    refine k _ dx (fun b o e => ?_) upd_same
    have nbp : b ≠ p := ne_of_none e p0
    rw [upd_ne nbp, upd_ne nbp]
    exact s0 _ _ e
def spChecked0 (K : PySem.W.Frag) : Sp := fun vs H Q _ => ∃ (a t : Addr) (n : Int) (l : NmL) (xs : List V) (ds : List PyData) (g : Str), vs = [.int n, .ref a, .ref t] ∧ NmD K H a l ∧ SqT K H t xs ∧ DpAll K H xs ds ∧ (∀ x, .str x ∈ ds → x.length ≤ sizeLine) ∧ formD n l (.tuple ds) = true ∧ wordOk l ds ∧ pathsD ds = some [] ∧ givenD l [] ds = some g ∧
  ∀ H', Same H H' → Q (.str g) H'
theorem ok_checked0 {f fS fI : Addr} {fd fdS fdI : FuncData} (F : Fun K "checked_sort" "checked_sort" sChecked f fd) (M : Mk K C fI) (mL : mg "Look" = some (.ref C)) (GI : FnOk P w K mg base CX0 1 fI fdI ["self", "size"] (spLookInit C)) (bI : Binds K fdI ["self", "size"] [])
    (GS : FnOk P w K mg base CX0 5 fS fdS ["look", "names", "term", "at", "depth"] (spSortAt0 K C)) (kS : PySem.W.keepIn K (.ref fS) = true) (bS : Binds K fdS ["look", "names", "term", "at", "depth"] []) (mS : mg "_sort_at" = some (.ref fS)) : FnOk P w K mg base CX0 6 f fd ["size", "names", "term"] (spChecked0 K) := by
  refine F.ok scChecked (fun vs H Q E h => ?_) (fun cdv A outer s H vs Q E hr h => ?_)
  · obtain ⟨a, t, n, l, xs, ds, g, rfl, _⟩ := h
    rfl
  · obtain ⟨a, t, n, l, xs, ds, g, rfl, hn, ht, hs, hz, hform, hword, hpath, hgiv, k⟩ := h
    have hr2 : Room 2 _ := hr.mono (show 2 ≤ 5 by decide)
    refine ⟨_, pss_one (ps_ret (pe_call GS hr rfl mS kS bS .nil pass0 (pa_cons (pe_make M GI hr2 rfl mL bI .nil pass0 (pa_cons (pv 0) pa_nil)) (pa_cons (pv 1) (pa_cons (pv 2) (pa_cons (pe_tup pa_nil) (pa_cons pe_int pa_nil))))))), ?_⟩
    refine ⟨_, rfl, fun p dx np ndx nex => ?_⟩
    have s0 : Same H (upd (upd H dx (.own p)) p (.ins C dx [])) := fun b o e => by
      rw [upd_ne (ne_of_none e np), upd_ne (ne_of_none e ndx)]
      exact e
    refine ⟨H, p, dx, n, rfl, s0, np, upd_same, fun H1 dx' s1 e1 => ⟨rfl, ?_⟩⟩
    refine ⟨_, rfl, _, rfl, Nat.zero_le _, fun q nq => ?_⟩
    have s2 : Same H1 (upd H1 q (.tup [])) := fun b o e => by rw [upd_ne (ne_of_none e nq)]; exact e
    have e2 := s2 _ _ e1
    generalize upd H1 q (.tup []) = H2 at s2 e2 ⊢
    have s12 := s1.trans s2
    refine ⟨p, a, t, q, dx', lookF n, n, 0, 1, l, xs, ds, g, rfl, e2, ?_, ?_, ?_, by decide, by decide, hn.same s12, sqT_same s12 ht, dps_same s12 hs, hz, hform, hword, hpath, hgiv, fun H3 s3 => k _ fun b o e => ?_⟩
    · unfold lookF
      rw [lookup_putF, if_neg (by decide +kernel), lookup_putF, if_pos rfl]
    · unfold lookF
      rw [lookup_putF, if_pos rfl]
    · show (putF _ _ _).length < 900
      rw [show (putF ("nodes" : Str) (V.int 0) (putF "size" (.int n) [])) = [(("size" : Str), V.int n), ("nodes", V.int 0)] from rfl]
      show 2 < 900
      decide
    · exact s3 _ _ (ne_of_none e np) (s12 _ _ e)
end
end Jd
/-! sort_of, is_term, Piece and Function: what they say to a wrong size or wrong names; is_term at a term without parts. -/
namespace Jd
open PySem PySem.Spec PyProof.Rows L2 RZ
abbrev sIsTerm : Stmt := top 35
abbrev sSortOf : Stmt := top 36
theorem scIsTerm : FnScope ["size", "names", "thing"] ["size", "names", "thing"] (defScope sIsTerm) := ⟨rfl, rfl, rfl, by decide +kernel, rfl, by decide +kernel, by decide +kernel⟩
theorem scSortOf : FnScope ["size", "names", "term"] ["size", "names", "term"] (defScope sSortOf) := ⟨rfl, rfl, rfl, by decide +kernel, rfl, by decide +kernel, by decide +kernel⟩
/-- a wrong size, or a right one and wrong names -/
def Bad2 (K : PySem.W.Frag) (cN cS : Addr) (v vn : V) (H : Hp) (E : XK) : Prop :=
  (∃ d, Dp K H v d ∧ withinD 2 4 d = false ∧ ∀ x, H x = none → E (.ref cN) (some x) (upd H x (.xd [(("part" : Str), .str "size")]))) ∨
  ∃ d o, Dp K H v d ∧ withinD 2 4 d = true ∧ NmAt K H vn o ∧ namesD o = false ∧ ∀ H', Same H H' → E (.ref cS) none H'
section
variable {P : Program} {w : World} {K : PySem.W.Frag} {mg : Str → Option Value} {base : Heap} {H : Hp} {cN cS fE cT fT C : Addr}
/-- check_size and check_names, as they stand in the top -/
structure Chk (P : Program) (w : World) (K : PySem.W.Frag) (mg : Str → Option Value) (base : Heap) (cN cS fZ fM : Addr) (dZ dM : FuncData) : Prop where
  gZ : FnOk P w K mg base (L2.CX P w) 3 fZ dZ ["size"] (spChkSize K cN)
  kZ : PySem.W.keepIn K (.ref fZ) = true
  bZ : Binds K dZ ["size"] []
  mZ : mg "check_size" = some (.ref fZ)
  gM : FnOk P w K mg base (L2.CX P w) 4 fM dM ["names"] (spChkNames K cS)
  kM : PySem.W.keepIn K (.ref fM) = true
  bM : Binds K dM ["names"] []
  mM : mg "check_names" = some (.ref fM)
def spSortOf (K : PySem.W.Frag) (cN cS : Addr) : Sp := fun vs H Q E => ∃ v vn vt, vs = [v, vn, vt] ∧ Bad2 K cN cS v vn H E
theorem ok_sortOf {f fZ fM fC : Addr} {fd dZ dM dC : FuncData} (F : Fun K "sort_of" "sort_of" sSortOf f fd) (G : Chk P w K mg base cN cS fZ fM dZ dM) (kC : PySem.W.keepIn K (.ref fC) = true) (bC : Binds K dC ["size", "names", "term"] []) (mC : mg "checked_sort" = some (.ref fC)) :
    FnOk P w K mg base (L2.CX P w) 5 f fd ["size", "names", "term"] (spSortOf K cN cS) := by
  have GC : FnOk P w K mg base CX0 1 fC dC ["size", "names", "term"] spNever := fnNever
  refine F.okX scSortOf (fun vs H Q E h => ?_) (fun cdv A outer s H vs Q E hr h => ?_)
  · obtain ⟨v, vn, vt, rfl, _⟩ := h
    rfl
  · obtain ⟨v, vn, vt, rfl, hb⟩ := h
    have hr3 := hr.mono (show 3 ≤ 4 by decide)
    have hr1 := hr.mono (show 1 ≤ 4 by decide)
    refine ⟨_, pss_cons (ps_expr (pe_callS (E := WE fun cls d _ H => E cls d H) G.gZ hr3 rfl G.mZ G.kZ G.bZ (fun σ => passAt (takes_of rfl rfl rfl rfl) σ) (pa_cons (pv 0) pa_nil)))
      (pss_cons (ps_expr (pe_callS (E := WE fun cls d _ H => E cls d H) G.gM hr rfl G.mM G.kM G.bM (fun σ => passAt (takes_of rfl rfl rfl rfl) σ) (pa_cons (pv 1) pa_nil)))
      (pss_one (ps_ret (pe_call GC hr1 rfl mC kC bC .nil pass0 (pa_cons (pv 0) (pa_cons (pv 1) (pa_cons (pv 2) pa_nil))))))), ?_⟩
    rcases hb with ⟨d, hd, e1, k⟩ | ⟨d, o, hd, e1, hn, e2, k⟩
    · exact ⟨_, rfl, v, d, rfl, hd, fun z => absurd (e1.symm.trans z) Bool.false_ne_true, fun _ x hx => k x hx⟩
    · refine ⟨_, rfl, v, d, rfl, hd, fun _ => ?_, fun z => absurd (z.symm.trans e1) Bool.false_ne_true⟩
      exact ⟨_, rfl, vn, o, rfl, hn, fun z => absurd (e2.symm.trans z) Bool.false_ne_true, fun _ H' s => k H' s⟩
/-- is_term: what check_size and check_names raise; True of a term without parts; (BadTerm's answer is not told here) -/
def spIsTerm (K : PySem.W.Frag) (cN cS : Addr) : Sp := fun vs H Q E => ∃ v vn vt, vs = [v, vn, vt] ∧ (Bad2 K cN cS v vn H E ∨
  ∃ (n : Int) (a t : Addr) (l : NmL) (o : Option (List (Key × PyData))) (xs : List V) (ds : List PyData) (g : Str), v = .int n ∧ vn = .ref a ∧ vt = .ref t ∧ withinD 2 4 (.int n) = true ∧ NmAt K H vn o ∧ namesD o = true ∧ NmD K H a l ∧ SqT K H t xs ∧ DpAll K H xs ds ∧ (∀ x, .str x ∈ ds → x.length ≤ sizeLine) ∧
    formD n l (.tuple ds) = true ∧ wordOk l ds ∧ pathsD ds = some [] ∧ givenD l [] ds = some g ∧ ∀ H', Same H H' → Q (.bl true) H')
theorem ok_isTerm {f fZ fM fC : Addr} {fd dZ dM dC : FuncData} (F : Fun K "is_term" "is_term" sIsTerm f fd) (G : Chk P w K mg base cN cS fZ fM dZ dM) (mT : mg "BadTerm" = some (.ref cT)) (GC : FnOk P w K mg base CX0 6 fC dC ["size", "names", "term"] (spChecked0 K)) (kC : PySem.W.keepIn K (.ref fC) = true)
    (bC : Binds K dC ["size", "names", "term"] []) (mC : mg "checked_sort" = some (.ref fC)) : FnOk P w K mg base (L2.CX P w) 7 f fd ["size", "names", "thing"] (spIsTerm K cN cS) := by
  refine F.okX scIsTerm (fun vs H Q E h => ?_) (fun cdv A outer s H vs Q E hr h => ?_)
  · obtain ⟨v, vn, vt, rfl, _⟩ := h
    rfl
  · obtain ⟨v, vn, vt, rfl, hb⟩ := h
    have hr3 := hr.mono (show 3 ≤ 6 by decide)
    have hr4 := hr.mono (show 4 ≤ 6 by decide)
    refine ⟨_, pss_cons (ps_expr (pe_callS (E := WE fun cls d _ H => E cls d H) G.gZ hr3 rfl G.mZ G.kZ G.bZ (fun σ => passAt (takes_of rfl rfl rfl rfl) σ) (pa_cons (pv 0) pa_nil)))
      (pss_cons (ps_expr (pe_callS (E := WE fun cls d _ H => E cls d H) G.gM hr4 rfl G.mM G.kM G.bM (fun σ => passAt (takes_of rfl rfl rfl rfl) σ) (pa_cons (pv 1) pa_nil)))
      (pss_cons (ps_try_only (c := .ref cT) (tb := fun W => tDrop (tCall (spChecked0 K) [] E0 (tCons (tVar 0) (tCons (tVar 1) (tCons (tVar 2) tNil))))) (Wout := fun _ _ _ _ => False) rfl rfl ⟨rfl, by decide, Or.inl mT⟩ takes0
          (fun W pn xe tk _ => pss_one (ps_expr (pe_call GC hr rfl mC kC bC .nil pass0 (pa_cons (pv 0) (pa_cons (pv 1) (pa_cons (pv 2) pa_nil)))))) (fun a oe cls d pn hz hf => pss_one (ps_ret pe_bl)))
      (pss_one (ps_ret pe_bl)))), ?_⟩
    rcases hb with (⟨d, hd, e1, k⟩ | ⟨d, o, hd, e1, hn, e2, k⟩) | ⟨n, a, t, l, o, xs, ds, g, rfl, rfl, rfl, e1, hn, e2, hl, ht, hs, hz, hform, hword, hpath, hgiv, k⟩
    · exact ⟨_, rfl, v, d, rfl, hd, fun z => absurd (e1.symm.trans z) Bool.false_ne_true, fun _ x hx => k x hx⟩
    · refine ⟨_, rfl, v, d, rfl, hd, fun _ => ?_, fun z => absurd (z.symm.trans e1) Bool.false_ne_true⟩
      exact ⟨_, rfl, vn, o, rfl, hn, fun z => absurd (e2.symm.trans z) Bool.false_ne_true, fun _ H' s => k H' s⟩
    · refine ⟨_, rfl, _, _, rfl, .int n, fun _ => ?_, fun z => absurd (z.symm.trans e1) Bool.false_ne_true⟩
      refine ⟨_, rfl, _, o, rfl, hn, fun _ H1 s1 => ?_, fun z => absurd (z.symm.trans e2) Bool.false_ne_true⟩
      refine ⟨_, rfl, _, rfl, _, rfl, a, t, n, l, xs, ds, g, rfl, hl.same s1, sqT_same s1 ht, dps_same s1 hs, hz, hform, hword, hpath, hgiv, fun H2 s2 => ?_⟩
      exact k _ (s1.trans s2)
end
end Jd
/-! A lambda as a value: made, tracked, called later in the frame's own time. -/
namespace Lm
open PySem PySem.Spec PyProof.Rows L2 LamX
/-- the object at f is the lambda of this text, with these cells and this code object -/
def LmO (f : Addr) (q : Str) (params : Arguments) (body : Expr) (scope : Scope) (cl : List (Str × Addr)) (c' : Addr) : HO :=
  .ext fun h => ∃ pm ctv : Value, h.get? f = some (PySem.W.kla_obj "<lambda>" q params body scope cl pm c' ctv)
section
variable {X : Cx} {pins : List (Addr × Obj)} {σ : L2.St} {H : Hp} {s : Shared}
theorem lmO_ok {P : Program} {w : World} {f c' : Addr} {q : Str} {params : Arguments} {body : Expr} {scope : Scope} {cl : List (Str × Addr)} {pm ctv : Value} {h : Heap} {H : Hp} (e : h.get? f = some (PySem.W.kla_obj "<lambda>" q params body scope cl pm c' ctv)) :
    ObjOk P w H h f (LmO f q params body scope cl c') := ⟨⟨pm, ctv, e⟩, ⟨_, e⟩, fun _ _ ⟨a, b, z⟩ st => ⟨a, b, st _ z⟩⟩
/-- made and tracked -/
theorem lam_track {T : List (Addr × Str)} {c P : Addr} {params : Arguments} {body : Expr} {scope : Scope} {pos : Pos} {E : Value → Shared → Prop} {Q : Value → Shared → Prop} (I : Inv X pins σ H s) (TB : TabB X.base X.mg c P) (hcode : X.env.code = .ref c)
    (hm : (P, X.env.qual ++ "<lambda>") ∈ T) (hu : ∀ p ∈ T, p.1 = P → p.2 = X.env.qual ++ "<lambda>") (hT : Tabs T H) (hdef : defaultsOf params X.env = ([], [])) (hfree : ∀ y ∈ scope.names, y.2 = .free → ∃ c, X.env.cells.lookup y.1 = some c)
    (h : ∀ (f c' : Addr) (H1 : Hp) (s' : Shared), Inv X pins σ (upd H1 f (LmO f (X.env.qual ++ "<lambda>") params body scope (cloFrom X.env.cells scope.names []) c')) s' → ExtN H H1 → Tabs T H1 → H1 f = none → H1 c' = some (CodeO c' (X.env.qual ++ "<lambda>")) → Q (.ref f) s') :
    wpAny (model X.prog X.w) X.A (eval (.Lambda params body scope pos) X.env) Q E s := by
  obtain ⟨ps, hP, ht, ha⟩ := hT _ hm
  refine PySem.W.kla_eval hdef ?_
  have bP : s.heap.BuiltinsAt X.mg P := TB.bm.keeps I.bk
  have aP : s.heap.get? P = some { cls := .none, data := .fields ps } := I.hok P _ hP
  have tracked : ∀ {H1 : Hp} {h' : Heap} {tk tk' : Nat} {c' : Addr} {ctv : Value}, Inv X pins σ H1 { s with heap := h', toks := tk } →
      Inv X pins σ (upd H1 h'.objs.size (LmO h'.objs.size (X.env.qual ++ "<lambda>") params body scope (cloFrom X.env.cells scope.names []) c'))
        { s with heap := h'.push (PySem.W.kla_obj "<lambda>" (X.env.qual ++ "<lambda>") params body scope (cloFrom X.env.cells scope.names []) ((X.mg "__name__").getD .none) c' ctv), toks := tk' } := fun I1 =>
    I1.laid (fun b u e => Heap.get?_push_of_some _ e) (Nat.le_refl _) (lmO_ok (Heap.get?_push_size _ rfl))
  cases hc : codeAmong pos ps.toList with
  | none =>
    refine PySem.W.kla_makeFunction (mg := X.mg) (c := c) (P := P) (ps := ps) (closure_ok hfree) I.ok.glob (I.mod.glob.keeps I.bk) hcode (TB.code.keeps I.bk) aP ht hc TB.gP bP fun c' ctv h' tk hx hge hlt hrec htb => ?_
    obtain ⟨c2, oc, vs, t, e2, hoc, hd, hv⟩ := hrec
    cases e2
    have nC : H c' = none := I.hok.fresh hge
    have I1 := inv_table (t' := tk) (more := #[rawInt pos.line, rawInt pos.col, .ref c']) (h' := h') I hP (fun b o hb e => hx b o hb e) htb hge ⟨oc, vs, t, hoc, hd, hv⟩
    have stay : ExtN H (upd (upd H P (.tbl (ps ++ #[rawInt pos.line, rawInt pos.col, .ref c']))) c' (CodeO c' (X.env.qual ++ "<lambda>"))) := fun b o e n => by
      by_cases bc : b = c'
      · rw [bc, nC] at e
        cases e
      by_cases bp : b = P
      · rw [bp, hP] at e
        exact absurd (Option.some.inj e).symm (n ps)
      · rw [upd_ne bc, upd_ne bp]
        exact e
    refine h h'.objs.size c' _ _ (tracked I1) stay (fun p hp => ?_) (I1.hok.fresh (Nat.le_refl _)) upd_same
    by_cases hb : p.1 = P
    · rw [hu p hp hb, hb]
      have el : (ps ++ #[rawInt pos.line, rawInt pos.col, .ref c']).toList = ps.toList ++ [rawInt pos.line, rawInt pos.col, .ref c'] := by simp
      refine ⟨_, by rw [upd_ne (ne_of_none hP nC), upd_same], by rw [el]; exact PySem.TriplesOk_snoc _ _ _ _ ht, fun pc cv hcv => ?_⟩
      rw [el] at hcv
      rcases among_app _ ht hcv with z | z
      · obtain ⟨c0, e1, e2⟩ := ha pc cv z
        exact ⟨c0, e1, stay _ _ e2 codeO_ne⟩
      · exact ⟨c', z, upd_same⟩
    · obtain ⟨qs, a1, a2, a3⟩ := hT p hp
      refine ⟨qs, by rw [upd_ne (ne_of_none a1 nC), upd_ne hb]; exact a1, a2, fun pc cv hcv => ?_⟩
      obtain ⟨c0, e1, e2⟩ := a3 pc cv hcv
      exact ⟨c0, e1, stay _ _ e2 codeO_ne⟩
  | some cv =>
    obtain ⟨c', e, hco⟩ := ha pos cv hc
    subst e
    refine PySem.W.kla_makeFunctionHit (mg := X.mg) (c := c) (P := P) (ps := ps) (closure_ok hfree) I.ok.glob (I.mod.glob.keeps I.bk) hcode (TB.code.keeps I.bk) aP ht hc bP fun ctv h' tk hx hsz => ?_
    have I1 : Inv X pins σ H { s with heap := h', toks := tk } := I.kept fun b o e => hx b o e
    exact h h'.objs.size c' H _ (tracked I1) (ExtN.refl H) hT (I.hok.fresh hsz) hco
/-- what is tracked by its look alone may be forgotten -/
theorem forget {a : Addr} {φ : Heap → Prop} (I : Inv X pins σ H s) (ha : H a = some (.ext φ)) : Inv X pins σ (delH H a) s := by
  have off : ∀ b o, H b = some o → (∀ ψ, o ≠ .ext ψ) → delH H a b = some o := fun b o e n => by
    by_cases ba : b = a
    · rw [ba, ha] at e
      exact absurd (Option.some.inj e).symm (n φ)
    · rw [delH_ne ba]
      exact e
  have none_ : ∀ b, H b = none → delH H a b = none := fun b e => by
    by_cases ba : b = a
    · rw [ba, delH_same]
    · rw [delH_ne ba]
      exact e
  refine ⟨I.ok, I.os, I.bare, ⟨I.base.keep, I.base.slot, fun b o e n hx => none_ b (I.base.free b o e n hx), I.base.there, fun b xs e => off _ _ (I.base.tups b xs e) (by intro ψ z; cases z), fun b o u e => off _ _ (I.base.frzs b o u e) (by intro ψ z; cases z), fun b ps e => ?_⟩,
    I.loc, I.cell, none_ _ I.free, fun x c e => none_ _ (I.freeC x c e), fun p hp => ?_, fun b o e => ?_, I.len⟩
  · obtain ⟨m, q⟩ := I.base.tbls b ps e
    exact ⟨m, off _ _ q (by intro ψ z; cases z)⟩
  · obtain ⟨h1, h2, h3⟩ := I.pin p hp
    exact ⟨h1, none_ _ h2, h3⟩
  · have ba : b ≠ a := fun z => by
      rw [z, delH_same] at e
      cases e
    rw [delH_ne ba] at e
    exact (I.hok b o e).stay (fun c u _ q => q) (fun c q => off _ _ q (by intro ψ z; cases z)) fun c xs q => off _ _ q (by intro ψ z; cases z)
/-- what is tracked is no frame's record -/
theorem off_frames {a : Addr} {o : HO} (I : Inv X pins σ H s) (ha : H a = some o) : a ∉ frs X.stack := fun z => by
  rcases List.mem_cons.mp (I.stkSub _ z) with e | e
  · have q := I.free
    rw [← e, ha] at q
    cases q
  · obtain ⟨_, ob, ho, _⟩ := I.ok.funs.mem e
    have q := I.base.free a ob ho (I.ok.frf a e) (fun hx => I.ok.exfs a hx e)
    rw [ha] at q
    cases q
/-- one of several texts of lambdas: parameters, body, scope, how the body is read -/
abbrev Text := Arguments × Expr × Scope × (XK → TE)
/-- x(w), w a variable that holds one of these lambdas, made in this frame -/
def tLamVar (X : Cx) (j : Nat) (B : List Text) (TT : (XK → Hp → VK → Prop) → Hp → VK → Prop) : TE := fun σ H Q => ∃ (f c' : Addr) (e : Text), σ[j]? = some (some (.ref f)) ∧ e ∈ B ∧
  H f = some (LmO f (X.env.qual ++ "<lambda>") e.1 e.2.1 e.2.2.1 (cloFrom X.env.cells e.2.2.1.names []) c') ∧ H c' = some (CodeO c' (X.env.qual ++ "<lambda>")) ∧ TT (fun E H' Q' => e.2.2.2 E σ H' Q') (delH H f) Q
/-- what is asked of each of the texts -/
structure TextOk (X : Cx) (k : Nat) (e : Text) : Prop where
  sc : LamS X.env.scope e.2.2.1
  bind : ∀ (q : Str) (cl : List (Str × Addr)) (pm cv ctv : Value), bindArgs (PySem.W.kla_fn "<lambda>" q e.1 e.2.1 e.2.2.1 cl pm cv ctv) ⟨[], []⟩ = pure []
  body : ∀ (A : Around) (outer : List Env) (s : Shared) (H : Hp) (E : XK) (f c' : Addr), Room k (A.deeper (lamEnv X e.2.2.1 s.heap.objs.size f c')) → PE (lamCx X A outer s H E e.2.2.1 f c') e.2.1 (e.2.2.2 E)
theorem pe_lamvar {TT : (XK → Hp → VK → Prop) → Hp → VK → Prop} {x a y : Str} {g : Addr} {k j : Nat} {pg : Arguments} {bg : List Stmt} {sg : Scope} {dV kV doc pm cdv ct oc : Value} {an od : Option Addr} {osl : Array (Option Value)} {Ng : List Str} {B : List Text} {p p2 pos : Pos}
    (hg : Gl X x) (hm : X.mg x = some (.ref g)) (hk : PySem.W.keepIn X.K (.ref g) = true) (lk : X.K.lookup g = some ⟨oc, od, .func (PySem.W.fnOf x x pg bg sg dV kV doc pm an cdv ct), osl⟩) (hcg : PySem.W.codeIn X.K cdv x = true)
    (hb : L2.Binds X.K (PySem.W.fnOf x x pg bg sg dV kV doc pm an cdv ct) [a] []) (Sg : FnScope Ng [a] sg) (hNg : Ng[0]? = some a) (hva : Vis sg a) (hG : GivesTo X Ng x sg g cdv bg a (X.env.qual ++ "<lambda>") TT) (hy : PE X (.Name y p2) (tVar j)) (hr : Room (k + 2) X.A) (hB : ∀ e ∈ B, TextOk X k e)
    (na : starEach [.Name y p2] X.env = (false, eval (.Name y p2) X.env) :: starEach [] X.env := by rfl) (hdb : (x == ("__debug__" : Str)) = false := by decide) (hd : (a == ("__debug__" : Str)) = false := by decide) (hcd : (a == ("__classdict__" : Str)) = false := by decide) :
    PE X (.Call (.Name x p) [.Name y p2] [] pos) (tLamVar X j B TT) := by
  refine ⟨fun pins s σ H Q I h => ?_⟩
  obtain ⟨f, c', e, hσ, he, hf, hco, ht⟩ := h
  have O := hB e he
  refine wpAny_Call_Name_kw (ld_glob I hg hm ?_ hdb)
  refine PySem.W.callWith_K (h₀ := X.base) I.ok.mod.kin hk ?_ na (by rfl)
  rw [na]
  refine Calls.spliced_cons (thn (hy.run pins s σ H (fun v H1 => v = .ref f ∧ H1 = H) I ⟨_, hσ, rfl, rfl⟩) fun u s1 ⟨v, H1, I1, r1, ev, eH⟩ => ?_)
  subst ev eH
  obtain rfl : u = Value.ref f := r1
  refine Calls.spliced_nil ⟨I1.kIn, ?_⟩
  obtain ⟨⟨pm', ctv, of1⟩, _, _⟩ := I1.hok f _ hf
  have ne : c' ≠ f := fun z => by
    obtain ⟨⟨oc2, vs, t, h1, h2, _⟩, _, _⟩ := I1.hok c' _ hco
    rw [z, of1] at h1
    cases h1
    cases h2
  have I2 := forget I1 hf
  have hco2 : delH H1 f c' = some (CodeO c' (X.env.qual ++ "<lambda>")) := by rw [delH_ne ne]; exact hco
  have out : codeAny (model X.prog X.w) X.A (.call (.ref g) ⟨[.ref f], []⟩) (CR C8.CX0 X.stack X.prog X.w (delH H1 f) s1 Q C8.E0) s1 := by
    refine run_ofS (N := Ng) (ps := [a]) (us := [.ref f]) (vs := [.ref f]) lk hcg Sg hr I2.env0 (hb s1 [.ref f] I2.kIn rfl) (.cons rfl .nil) rfl fun hr' => ?_
    obtain ⟨t', h1, h2⟩ := hG f c' s1 (delH H1 f) Q (fun E H' Q' => e.2.2.2 E σ H' Q')
      (fun W pn xe E p1 p2 tk hW => pe_act (i := 0) I2 O.sc of1 delH_same (off_frames I1 hf) (O.bind _ _ _ _ _) tk hW hr' (fun A outer s H hr2 => O.body A outer s H E f c' hr2) hNg hva hd hcd) hco2 ht
    exact ⟨t', h1.nox, h2⟩
  refine wpAny_call (codeAny_mono out fun r s2 hq => ?_)
  cases r with
  | error er => exact (show False from hq).elim
  | ok fl =>
    cases fl with
    | ret u2 => exact I2.after hq
    | next => exact False.elim hq
    | brk => exact False.elim hq
    | cont => exact False.elim hq
/-- a lambda as a value -/
def tLamE (X : Cx) (T : List (Addr × Str)) (params : Arguments) (body : Expr) (scope : Scope) : TE := fun σ H Q => Tabs T H ∧ ∀ (f c' : Addr) (H1 : Hp), ExtN H H1 → Tabs T H1 → H1 f = none → H1 c' = some (CodeO c' (X.env.qual ++ "<lambda>")) →
  Q (.ref f) (upd H1 f (LmO f (X.env.qual ++ "<lambda>") params body scope (cloFrom X.env.cells scope.names []) c'))
theorem pe_lamE {T : List (Addr × Str)} {c P : Addr} {params : Arguments} {body : Expr} {scope : Scope} {pos : Pos} (TB : TabB X.base X.mg c P) (hcode : X.env.code = .ref c) (hm : (P, X.env.qual ++ "<lambda>") ∈ T) (hu : ∀ p ∈ T, p.1 = P → p.2 = X.env.qual ++ "<lambda>")
    (hdef : defaultsOf params X.env = ([], [])) (L : LamS X.env.scope scope) : PE X (.Lambda params body scope pos) (tLamE X T params body scope) := by
  refine ⟨fun pins s σ H Q I h => ?_⟩
  obtain ⟨hT, h⟩ := h
  exact lam_track I TB hcode hm hu hT hdef (L.has I.ok) fun f c' H1 s' I1 eN T1 n1 hco => ⟨.ref f, _, I1, rfl, h f c' H1 eN T1 n1 hco⟩
end
end Lm
/-! A caught error that outlives its suite: tracked by its look from the clause on. -/
namespace L2
open PySem PySem.Spec PyProof.Rows
/-- at a stands an error that flew: of this class, with this dict -/
def ErrO (cls : Value) (d : Option Addr) (a : Addr) : HO := .ext fun h => ∃ (oe : Obj) (vs : Array Value), h.get? a = some oe ∧ Zc cls d oe ∧ oe.data = .fields vs
theorem errO_ok {P : Program} {w : World} {a : Addr} {cls : Value} {d : Option Addr} {oe : Obj} {vs : Array Value} {h : Heap} {H : Hp} (e : h.get? a = some oe) (z : Zc cls d oe) (f : oe.data = .fields vs) : ObjOk P w H h a (ErrO cls d a) :=
  ⟨⟨oe, vs, e, z, f⟩, ⟨oe, e⟩, fun _ _ ⟨o, v, q, r⟩ st => ⟨o, v, st _ q, r⟩⟩
section
variable {X : Cx} {pins : List (Addr × Obj)} {σ : St} {H : Hp} {s : Shared}
/-- an object of ours that nobody tracks is tracked from now on -/
theorem Inv.track {a : Addr} {o : HO} (I : Inv X pins σ H s) (na : H a = none) (n0 : X.s_0.heap.get? a = none) (np : ∀ p ∈ X.pn ++ pins, p.1 ≠ a) (nL : X.env.locals ≠ a) (nC : ∀ x c, X.env.cells.lookup x = some c → c ≠ a)
    (ob : ObjOk X.prog X.w (upd H a o) s.heap a o) : Inv X pins σ (upd H a o) s := by
  have old : ∀ b u, H b = some u → upd H a o b = some u := fun b u e => (upd_ne (ne_of_none e na)).trans e
  have oth : ∀ b u, X.s_0.heap.get? b = some u → upd H a o b = H b := fun b u e => upd_ne fun z => by
    rw [z, n0] at e
    cases e
  refine { ok := I.ok, os := I.os, bare := I.bare, loc := I.loc, cell := I.cell, len := I.len, free := (upd_ne nL).trans I.free, freeC := fun x c e => (upd_ne (nC x c e)).trans (I.freeC x c e), base := ?_, pin := fun p hp => ?_, hok := fun b u e => ?_ }
  · exact ⟨I.base.keep, I.base.slot, fun b u e n x => (oth b u e).trans (I.base.free b u e n x), I.base.there, fun b xs e => old b _ (I.base.tups b xs e), fun b u w e => old b _ (I.base.frzs b u w e), fun b ps e => by
      obtain ⟨m, q⟩ := I.base.tbls b ps e
      exact ⟨m, old b _ q⟩⟩
  · obtain ⟨p1, p2, p3⟩ := I.pin p hp
    exact ⟨p1, (upd_ne (np p hp)).trans p2, p3⟩
  · by_cases ba : b = a
    · subst ba
      rw [upd_same] at e
      cases e
      exact ob
    · rw [upd_ne ba] at e
      exact (I.hok b u e).stay (fun _ _ _ q => q) (fun c q => old c _ q) fun c xs q => old c _ q
/-- into a suite, the error being tracked -/
theorem Inv.suiteT (I : Inv X pins σ H s) (a : Addr) : Inv (X.suite a (X.pn ++ pins)) [] σ H s :=
  { ok := I.ok.suite a _, os := I.os, bare := I.bare, base := I.base, loc := I.loc, cell := I.cell, free := I.free, freeC := I.freeC, pin := fun p hp => I.pin p (by rw [List.append_nil] at hp; exact hp), hok := I.hok, len := I.len }
theorem Inv.unsuiteT {a : Addr} {ps : List (Addr × Obj)} (ok : X.Ok) (I : Inv (X.suite a (X.pn ++ pins)) ps σ H s) : Inv X pins σ H s :=
  { ok := ok, os := I.os, bare := I.bare, base := I.base, loc := I.loc, cell := I.cell, free := I.free, freeC := I.freeC, pin := fun p hp => I.pin p (List.mem_append.mpr (.inl hp)), hok := I.hok, len := I.len }
end
/-- what 'except x as n' wishes, all errors of the body being of x: slot i is n's, the error stays -/
def wKeep (K : PySem.W.Frag) (c : Value) (i m : Nat) (ts : Addr → Value → Option Addr → TS) (D : Ends) : WX := fun cls d σ H =>
  PySem.W.exmOne K cls c = some true ∧ ∀ a, H a = none → σ.length = m → ts a cls d { nx := fun σ' H' => D.nx (σ'.set i none) H', rt := fun v H' => False, bk := fun _ _ => False, ct := fun _ _ => False } (σ.set i (some (.ref a))) (upd H a (ErrO cls d a))
section
variable {X : Cx} {x n : Str} {c : Value} {i : Nat} {body suite : List Stmt} {st₀ : Stmt} {p1 p2 p3 : Pos} {tb : WX → TS} {ts : Addr → Value → Option Addr → TS}
theorem ps_try_keep (hs : X.stack = X.env :: X.outer) (hf : X.env.frame = some X.env.locals) (hex : X.ex = []) (hN : X.N.Nodup) (hi : X.N[i]? = some n) (hl : X.env.kindOf n = some .local) (hc : Names X x c)
    (hb : ∀ (W : WX) (pn : List (Addr × Obj)) (xe : Value → Shared → Prop), Takes (X.tr pn xe) W → PSs (X.tr pn xe) body (tb W))
    (hsu : ∀ (a : Addr) (cls : Value) (d : Option Addr) (pn : List (Addr × Obj)), PSs (X.suite a pn) (st₀ :: suite) (ts a cls d)) :
    PS X (.Try body [.ExceptHandler (some (.Name x p1)) (some n) (st₀ :: suite) p2] [] [] p3) (fun D σ H => tb (wKeep X.K c i X.N.length ts D) D σ H) := by
  refine ⟨fun pins s σ H D I h => ?_⟩
  have ok := I.ok
  have frm : X.A.frames = some (X.env :: X.outer) := by rw [ok.frames, hs]
  refine wpAny_Try_except ?_
  have run := (hb (wKeep X.K c i X.N.length ts D) (X.pn ++ pins)
    (fun er sa => wpAny (model X.prog X.w) X.A (noteFrame er X.env)
      (fun _ sb => wpAny (model X.prog X.w) X.A (setFlight er none)
        (fun _ sc => wpAny (model X.prog X.w) X.A (handleBy er X.env [.ExceptHandler (some (.Name x p1)) (some n) (st₀ :: suite) p2]) (SP X pins D) X.xe sc) X.xe sb) X.xe sa)
    (fun u s' air => ?_)).run [] s σ H D (I.toTry _) h
  · refine wpAny_mono run (fun f s1 e1 => ?_) fun _ _ z => z
    cases f with
    | next => exact wpAny_execs_nil (by obtain ⟨σ1, H1, J, q⟩ := e1; exact ⟨σ1, H1, J.ofTry ok, q⟩)
    | brk => obtain ⟨σ1, H1, J, q⟩ := e1; exact ⟨σ1, H1, J.ofTry ok, q⟩
    | cont => obtain ⟨σ1, H1, J, q⟩ := e1; exact ⟨σ1, H1, J.ofTry ok, q⟩
    | ret w => obtain ⟨v, σ1, H1, J, r, q⟩ := e1; exact ⟨v, σ1, H1, J.ofTry ok, r, q⟩
  · obtain ⟨a, B, sI, qs, σ1, H1, cls, d, rfl, J0, ground, slots, sky, na, eos, bare, is, goes⟩ := air
    have J := J0.ofTry ok
    rw [show (X.tr (X.pn ++ pins) _).stack = X.env :: X.outer from hs] at sky
    refine Sky.land Zc.steady frm hf sky fun h3 fl3 up3 => ?_
    have I3 : Inv X pins σ1 H1 { s' with heap := h3 } := J.landed ground fl3.1 (slots.trans up3) eos bare
    obtain ⟨oe, vs, at3, z3, f3⟩ := fl3.there
    have off : a ∉ frs (X.env :: X.outer) := fun hm => by
      obtain ⟨_, o, e, nf⟩ := fl3.2.2.1.mem hm
      rw [at3] at e
      cases e
      exact nf _ f3
    have nB : ∀ b o, sI.heap.get? b = some o → b ∉ frs X.stack → b ≠ a := fun b o e nm z => by
      have q := ground b o e nm
      rw [z, fl3.2.1] at q
      cases q
    have nL : X.env.locals ≠ a := fun z => off (List.mem_filterMap.mpr ⟨X.env, List.mem_cons_self, by rw [hf, z]⟩)
    have n0 : X.s_0.heap.get? a = none := by
      cases e : X.s_0.heap.get? a with
      | none => rfl
      | some o =>
        obtain ⟨o', e'⟩ := J.base.there a o e (by rw [hex]; simp)
        exact absurd rfl (nB a o' e' (by rw [hs]; exact off))
    have np : ∀ p ∈ X.pn ++ pins, p.1 ≠ a := fun p hp => by
      obtain ⟨e, _, n1, n2, _⟩ := J.pin p hp
      exact nB p.1 p.2 e fun hm => (List.mem_cons.mp (J.stkSub _ hm)).elim n1 n2
    have nC : ∀ (s2 : Shared) (H2 : Hp) (o : Obj) (ws : Array Value), Inv X pins σ1 H2 s2 → s2.heap.get? a = some o → o.data = .fields ws → ∀ y c, X.env.cells.lookup y = some c → c ≠ a := fun s2 H2 o ws K e f y c hc z => by
      obtain ⟨v, o', e', f'⟩ := K.cell y c hc
      rw [z, e] at e'
      cases e'
      rw [f] at f'
      cases f'
    have T3 := (I3.track na n0 np nL (nC _ _ _ _ I3 at3 f3) (errO_ok at3 z3 f3)).suiteT a
    refine wpAny_handleBy_cons (codeAny_handlers_test ?_) (by intro q; cases q)
    have kind : PySem.W.Looks (model X.prog X.w) h3 (typeOf (.ref a)) cls := fun A Q E s k q => wpAny_typeOf_ref (k _ _ at3) (by rw [z3.1]; exact q)
    have fits := PySem.W.exm_one (M := model X.prog X.w) I3.kIn kind is
    have named : ∀ {Q E : Value → Shared → Prop}, Q c { s' with heap := h3 } → wpAny (model X.prog X.w) (X.A.mark (some (.ref a))) (eval (.Name x p1) X.env) Q E { s' with heap := h3 } := fun {Q E} q => by
      obtain ⟨hg, hd, hm | ⟨hm, hv, hn⟩⟩ := hc
      · exact ld_glob (X := X.suite a (X.pn ++ pins)) T3 hg hm q hd
      · exact ld_blt (X := X.suite a (X.pn ++ pins)) T3 hg hm hv q hn hd
    refine named (fits.here (codeAny_handlers_suite_as ?_))
    refine HandSPX.lands_againZ fl3 fun h4 fl4 up4 => ?_
    have I4 : Inv X pins σ1 H1 { s' with heap := h4 } := J.landed ground fl4.1 ((slots.trans up3).trans up4) eos bare
    obtain ⟨oe4, vs4, at4, z4, f4⟩ := fl4.there
    have T4 := (I4.track na n0 np nL (nC _ _ _ _ I4 at4 f4) (errO_ok at4 z4 f4)).suiteT a
    refine store_ok (X := X.suite a (X.pn ++ pins)) (v := .ref a) T4 hN hi (.inl hl) rfl (fun s5 S5 => ?_) (.inr hl)
    refine wpAny_mono ((hsu a cls d (X.pn ++ pins)).run [] s5 _ _ _ S5 (goes a na J.len)) (fun f s6 e6 => ?_) fun _ _ z => False.elim z
    cases f with
    | next =>
      obtain ⟨σ6, H6, S6, q6⟩ := e6
      exact gone_ok (S6.unsuiteT ok) hN hi hl fun s7 J7 => ⟨_, _, J7, q6⟩
    | brk => obtain ⟨_, _, _, q6⟩ := e6; exact False.elim q6
    | cont => obtain ⟨_, _, _, q6⟩ := e6; exact False.elim q6
    | ret w => obtain ⟨_, _, _, _, _, q6⟩ := e6; exact False.elim q6
end
end L2
/-! What is asked of a caught error that is kept: its class, its field; `_law_caught` given a lambda. -/
namespace L2
open PySem PySem.Spec PyProof.Rows LamX
section
variable {X : Cx} {pins : List (Addr × Obj)} {σ : St} {H : Hp} {s : Shared} {a C : Addr}
/-- a caught error of the class at C stands at a: without, or with, a dict of its own -/
def IsGot (H : Hp) (a C : Addr) : Prop := H a = some (ErrO (.ref C) none a) ∨ ∃ (d : Addr) (pn : Str) (v : V), H a = some (ErrO (.ref C) (some d) a) ∧ H d = some (.xd [(pn, v)])
theorem got_inst0 {oe : Obj} {vs : Array Value} {h : Heap} (e : h.get? a = some oe) (z : Zc (.ref C) none oe) (f : oe.data = .fields vs) : PySem.W.InstAt h a oe C none := by
  obtain ⟨oc, odi, oda, osl⟩ := oe
  obtain ⟨z1, z2⟩ := z
  dsimp only at z1 z2 f
  subst z1 z2 f
  exact ⟨e, rfl, rfl, trivial⟩
theorem got_inst1 {d : Addr} {o : Obj} {oe : Obj} {vs : Array Value} {h : Heap} (e : h.get? a = some oe) (z : Zc (.ref C) (some d) oe) (f : oe.data = .fields vs) (hd : h.get? d = some o) : PySem.W.InstAt h a oe C (some o) := by
  obtain ⟨oc, odi, oda, osl⟩ := oe
  obtain ⟨z1, z2⟩ := z
  dsimp only at z1 z2 f
  subst z1 z2 f
  exact ⟨e, rfl, rfl, hd⟩
theorem IsGot.inst (I : Inv X pins σ H s) (e : IsGot H a C) : ∃ (ox : Obj) (od : Option Obj), PySem.W.InstAt s.heap a ox C od := by
  rcases e with e | ⟨d, pn, v, e, ed⟩
  · obtain ⟨⟨oe, vs, ho, z, f⟩, _, _⟩ := (show ObjOk X.prog X.w H s.heap a (ErrO (.ref C) none a) from I.hok a _ e)
    exact ⟨oe, none, got_inst0 ho z f⟩
  · obtain ⟨⟨oe, vs, ho, z, f⟩, _, _⟩ := (show ObjOk X.prog X.w H s.heap a (ErrO (.ref C) (some d) a) from I.hok a _ e)
    obtain ⟨mA, ⟨o, es, ep, h1, _⟩, _⟩ := (show ObjOk X.prog X.w H s.heap d (.xd [(pn, v)]) from I.hok d _ ed)
    exact ⟨oe, some o, got_inst1 ho z f h1⟩
/-- isinstance(e, c), e a caught error -/
def rIsG (K : PySem.W.Frag) : List V → Hp → VK → Prop := fun xs H Q => ∃ (a C : Addr) (c : V) (cv : Value) (b : Bool), xs = [.ref a, c] ∧ IsGot H a C ∧ ExcC K C ∧ (∀ u, RelV c u → u = cv) ∧ PySem.W.kitOne K (.ref C) cv = some b ∧ Q (.bl b) H
theorem call_isG : CallR X (.builtin "isinstance") (rIsG X.K) := by
  intro pins s σ H xs us Q I r h
  obtain ⟨a, C, c, cv, b, rfl, he, T, hcv, e, q⟩ := h
  cases r with
  | cons rx rr =>
    cases rr with
    | cons rt rr =>
      cases rr
      cases rx
      obtain rfl := hcv _ rt
      obtain ⟨ox, od, J⟩ := he.inst I
      have isC : (PySem.W.clsIn X.K C).isSome = true := by
        have q := T.hd
        unfold PySem.W.hasDictIn at q
        cases z : PySem.W.clsIn X.K C with
        | some _ => rfl
        | none => rw [z] at q; cases q
      exact PySem.W.kia_one (PySem.W.kitx_exc (od := od) isC T.hg T.hk T.hs T.ha T.hn T.ht T.hm) I.kIn J e (fun z => nomatch z) fun tk => ⟨.bl b, H, I.kept (t' := tk) fun _ _ z => z, rfl, q⟩
/-- e.pn, e a caught error with that field -/
def tGotFld (K : PySem.W.Frag) (pn : Str) (te : TE) : TE := fun σ H Q => te σ H fun x H1 => ∃ (a C d : Addr) (v : V), x = .ref a ∧ H1 a = some (ErrO (.ref C) (some d) a) ∧ H1 d = some (.xd [(pn, v)]) ∧ ExcC K C ∧ PySem.W.findIn K (.ref C) pn = some none ∧ Q v H1
theorem pe_gotFld {e : Expr} {te : TE} {pn : Str} {pos : Pos} (he : PE X e te) (hb : attributeBase e pn X.env (eval e X.env) = eval e X.env := by rfl) : PE X (.Attribute e pn pos) (tGotFld X.K pn te) := by
  refine ⟨fun pins s σ H Q I h => ?_⟩
  refine attr_of hb (thn (he.run pins s σ H _ I h) fun u s1 hh => ?_)
  obtain ⟨x, H1, I1, rx, a, C, d, v, rfl, ea, ed, T, hno, q⟩ := hh
  obtain rfl : u = Value.ref a := rx
  obtain ⟨⟨oe, vs, ho, z, f⟩, _, _⟩ := (show ObjOk X.prog X.w H1 s1.heap a (ErrO (.ref C) (some d) a) from I1.hok a _ ea)
  obtain ⟨mA, hns, hr⟩ := (show ObjOk X.prog X.w H1 s1.heap d (.xd [(pn, v)]) from I1.hok d _ ed)
  obtain ⟨od, hod, hl⟩ := lookIn_ns hns
  obtain ⟨w, hw, rw_⟩ := RelO.some_of (v := v) (o := mA pn) (by have q := hr pn; simpa [List.lookup] using q)
  have J : PySem.W.InstAt s1.heap a oe C (some od) := got_inst1 ho z f hod
  exact HandSPX.exc_get I1.kIn J T.hg T.hk T.hs (PySem.W.findObj_own T.hd hno rfl (by rw [hl, hw])) (handed_of rw_) ⟨v, H1, I1.tok _, rw_, q⟩
/-- caught: None, or the error -/
def TCaught (K : PySem.W.Frag) (CS : Addr) : (XK → Hp → VK → Prop) → Hp → VK → Prop := fun tl H Q =>
  tl (fun cls d H' => PySem.W.exmOne K cls (.ref CS) = some true ∧ ∀ a, H' a = none → Q (.ref a) (upd H' a (ErrO cls d a))) H fun _ H' => Q .non H'
end
end L2
namespace L2
open PySem PySem.Spec PyProof.Rows LamX
section
variable {X : Cx}
/-- caught = None / try: work() / except PlayError as error: caught = error / return caught -/
theorem caught_gives {x q : Str} {sg : Scope} {g CS : Addr} {cdg : Value} {j : Nat} {p0 p00 p01 p1 p2 p3 p4 p5 p6 p7 p8 p9 p10 p11 : Pos} (hge : sg.names.lookup ("PlayError" : Str) = some .globalImplicit) (hme : X.mg "PlayError" = some (.ref CS))
    (hk : sg.names.lookup ("error" : Str) = some .local) (hk1 : sg.names.lookup ("caught" : Str) = some .local) :
    GivesTo X ["work", "caught", "error"] x sg g cdg [.Assign [.Name "caught" p0] (.Constant .none j p00) p01, .Try [.Expr (.Call (.Name "work" p1) [] [] p2) p3] [.ExceptHandler (some (.Name "PlayError" p4)) (some "error") [.Assign [.Name "caught" p5] (.Name "error" p6) p7] p8] [] [] p9, .Return (some (.Name "caught" p10)) p11]
      "work" q (TCaught X.K CS) := by
  intro f c' s H Q tl act hc h
  let Z : Cx := (cxOf C8.CX0 X.prog X.w X.K X.mg X.base ["work", "caught", "error"] x sg g cdg X.A X.stack s H C8.E0).nox
  have hgl : Gl Z "PlayError" := hge
  have nd : Z.N.Nodup := by show (["work", "caught", "error"] : List Str).Nodup; decide +kernel
  refine ⟨_, pss_cons (ps_set (X := Z) (i := 1) nd rfl (.inl hk1) pe_non) (pss_cons (ps_try_keep (X := Z) (c := .ref CS) (i := 2)
      (tb := fun W D σ H => ∃ Ech : XK, (∀ cls d σ' H', Ech cls d H' → W cls d σ' H') ∧ σ[0]? = some (some (.ref f)) ∧ H c' = some (CodeO c' q) ∧ tl Ech H fun _ H' => D.nx σ H')
      rfl rfl rfl nd rfl hk ⟨hgl, by decide, .inl hme⟩ (fun W pn xe tk => ?_) (fun a cls d pn => pss_one (ps_set (X := Z.suite a pn) (i := 1) nd rfl (.inl hk1) (pe_var (i := 2) rfl (.inl hk) (by decide) (by decide))))) (pss_one (ps_ret (X := Z) (pe_var (i := 1) rfl (.inl hk1) (by decide) (by decide))))), ?_⟩
  · refine ⟨fun pins s' σ H' D I h' => ?_⟩
    obtain ⟨Ech, hW, h1, h2, h3⟩ := h'
    have hq := pss_one (ps_expr (pos := p3) (act W pn xe Ech p1 p2 tk hW))
    exact hq.run pins s' σ H' D I ⟨h1, h2, h3⟩
  · refine ⟨fun cls d H' => PySem.W.exmOne X.K cls (.ref CS) = some true ∧ ∀ a, H' a = none → Q (.ref a) (upd H' a (ErrO cls d a)), fun cls d σ' H' hh => ⟨hh.1, fun a na hl => ?_⟩, rfl, hc, ?_⟩
    · obtain ⟨s0, s1, s2, rfl⟩ : ∃ s0 s1 s2, σ' = [s0, s1, s2] := by
        match σ', (show σ'.length = 3 from hl) with
        | [s0, s1, s2], _ => exact ⟨s0, s1, s2, rfl⟩
      exact ⟨_, rfl, _, rfl, hh.2 a na⟩
    · refine Eq.mpr (congrArg (tl _ H) (funext fun _ => funext fun H' => propext ⟨fun hh => ?_, fun q => ⟨.non, rfl, q⟩⟩)) h
      obtain ⟨v, e, q⟩ := hh
      cases e
      exact q
end
end L2
/-! Small rules: f(k = v) without anything by position; a short string many times. -/
namespace L2
open PySem PySem.Spec PyProof.Rows
section
variable {X : Cx}
def tCallK0 (sp : Sp) (gV : List V → List V → List V) (E : XK) (tk : TA) : TE := fun σ H Q => tk σ H fun zs H1 => sp (gV [] zs) H1 Q E
theorem pe_callK0 {CX : CXT} {k : Nat} {f : Addr} {fd : FuncData} {ps ks : List Str} {sp : Sp} {E : XK} {x : Str} {p pos : Pos} {kws : List Keyword} {tk : TA} {g : List Value → List Value → List Value} {gV : List V → List V → List V}
    (F : FnOk X.prog X.w X.K X.mg X.base CX k f fd ps sp) (hr : Room k X.A) (hg : Gl X x) (hm : X.mg x = some (.ref f)) (hk : PySem.W.keepIn X.K (.ref f) = true) (hb : KBinds X.K fd ps ks g gV) (hx : Passes CX X E) (hkw : PK X kws tk)
    (some_ : (backToKw pos (keywordEach kws X.env)).all (·.1.isSome) = true := by rfl) (names_ : (backToKw pos (keywordEach kws X.env)).filterMap (·.1) = ks := by rfl) (hdb : (x == ("__debug__" : Str)) = false := by decide)
    (plain_ : ((backTo pos (starEach [] X.env)).any (·.1) || (backToKw pos (keywordEach kws X.env)).any (·.1.isNone)) = false := by rfl) : PE X (.Call (.Name x p) [] kws pos) (tCallK0 sp gV E tk) := by
  refine ⟨fun pins s σ H Q I h => wpAny_Call_Name_kw (ld_glob I hg hm ?_ hdb)⟩
  refine PySem.W.callWith_KW0 (h₀ := X.base) I.ok.mod.kin hk some_ (thn (hkw.run pos pins s σ H _ I h) fun ws s1 hh => ?_) plain_
  obtain ⟨zs, H1, I1, rz, q⟩ := hh
  rw [names_]
  exact ⟨I1.kIn, run_fnk (us := []) (vs := []) F hr hb hx I1 .nil rz q⟩
/-- "a" * 9 -/
def rMulS : R2 := fun x y H Q => ∃ (z : Str) (i : Int), x = .str z ∧ y = .int i ∧ z.length ≤ 16 ∧ 0 ≤ i ∧ i ≤ 1000 ∧ Q (.str (Txt.mul z i)) H
theorem op_mulS : OpR X (binaryOp .Mult) rMulS := by
  intro pins s σ H x y v u Q I rx ry h
  obtain ⟨z, i, rfl, rfl, hz, h0, h1, q⟩ := h
  obtain ⟨t, rfl⟩ := (show ∃ t, v = Value.str z t from rx)
  obtain ⟨t2, rfl⟩ := (show ∃ t, u = Value.int i t from ry)
  exact PySem.W.KXi.mul (n := z.length) rfl hz (by omega) (by omega) fun t' k _ _ => ⟨.str (Txt.mul z i), H, I.tok k, ⟨t', rfl⟩, q⟩
end
end L2
/-! what the law needs besides. -/
namespace Jd
open PySem PySem.Spec PyProof.Rows L2 RZ LamX Lm Dk
abbrev sCaught : Stmt := Jd.top 53
abbrev caN : List Str := ["work", "caught", "error"]
theorem scCaught : FnScope caN ["work"] (defScope sCaught) := ⟨rfl, rfl, rfl, by decide +kernel, rfl, by decide +kernel, by decide +kernel⟩
/-- a def that is called by its name -/
structure Has (P : Program) (w : World) (K : PySem.W.Frag) (mg : Str → Option Value) (base : Heap) (CX : CXT) (x : Str) (k : Nat) (ps : List Str) (sp : Sp) (f : Addr) (fd : FuncData) : Prop where
  m : mg x = some (.ref f)
  kp : PySem.W.keepIn K (.ref f) = true
  g : FnOk P w K mg base CX k f fd ps sp
  b : Binds K fd ps []
section
variable {P : Program} {w : World} {K : PySem.W.Frag} {mg : Str → Option Value} {base : Heap}
theorem Has.pe {X : Cx} {CX : CXT} {x : Str} {k : Nat} {ps : List Str} {sp : Sp} {f : Addr} {fd : FuncData} {E : XK} {e : Expr} {es : List Expr} {t : TA} {p pos : Pos} (G : Has X.prog X.w X.K X.mg X.base CX x k ps sp f fd) (hr : Room k X.A) (hx : Passes CX X E) (ha : PA X (e :: es) t) (hg : Gl X x)
    (hdb : (x == ("__debug__" : Str)) = false := by decide) (he : starEach (e :: es) X.env = (false, eval e X.env) :: starEach es X.env := by rfl) (hpl : (backTo pos (starEach es X.env)).any (·.1) = false := by rfl) :
    PE X (.Call (.Name x p) (e :: es) [] pos) (tCall sp [] E t) := pe_call G.g hr hg G.m G.kp G.b .nil hx ha hdb he hpl
/-- THE RULE for a def, its code object told -/
theorem Fun.okC {x qual : Str} {st : Stmt} {f : Addr} {fd : FuncData} {N ps : List Str} {k : Nat} {sp : Sp} (F : Fun K x qual st f fd) (S : FnScope N ps (defScope st)) (len : ∀ vs H Q E, sp vs H Q E → vs.length = ps.length)
    (hbody : ∀ (A : Around) (outer : List Env) (s : Shared) (H : Hp) (vs : List V) (Q : VK) (E : XK), Room k (A.deeper (envOfC qual (defScope st) s.heap.objs.size f fd.code)) → sp vs H Q E →
      ∃ t, PSs (cxOf CX0 P w K mg base N qual (defScope st) f fd.code A outer s H E).nox (defBody st) t ∧ t { nx := fun _ H' => Q .non H', rt := Q } (start N vs) H) : FnOk P w K mg base CX0 (k + 1) f fd ps sp := by
  obtain ⟨oc, od, kV, doc, pm, an, cdv, ct, osl, rfl, lk, hcd⟩ := F.ex
  refine fn_of lk hcd S len fun A outer s H vs Q E hr hsp => ?_
  obtain ⟨t, h, q⟩ := hbody A outer s H vs Q E hr hsp
  exact ⟨t, PSs.nox h, q⟩
theorem PS.imp {X : Cx} {st : Stmt} {t u : TS} (h : PS X st t) (i : ∀ D σ H, u D σ H → t D σ H) : PS X st u := ⟨fun pins s σ H D I q => h.run pins s σ H D I (i D σ H q)⟩
theorem new_same {H : Hp} {p : Addr} {o : HO} (n : H p = none) : Same H (upd H p o) := fun b u e => (upd_ne (ne_of_none e n)).trans e
/-- data are kept: all but tables and what is tracked by its look -/
def isD : HO → Bool
  | .ext _ => false
  | .tbl _ => false
  | _ => true
def Kp (H H' : Hp) : Prop := ∀ b o, H b = some o → isD o = true → H' b = some o
theorem Kp.refl (H : Hp) : Kp H H := fun _ _ h _ => h
theorem Kp.trans {H H1 H2 : Hp} (a : Kp H H1) (b : Kp H1 H2) : Kp H H2 := fun c o h d => b c o (a c o h d) d
theorem Kp.of {H H' : Hp} (s : Same H H') : Kp H H' := fun b o h _ => s b o h
theorem Kp.ext {H H' : Hp} (s : ExtN H H') : Kp H H' := fun b o h d => s b o h fun ps z => by rw [z] at d; cases d
theorem Kp.del {H : Hp} {f : Addr} {φ : Heap → Prop} (e : H f = some (.ext φ)) : Kp H (delH H f) := fun b o h d => by
  have ne : b ≠ f := fun z => by
    rw [z, e] at h
    cases h
    cases d
  rw [delH_ne ne]
  exact h
theorem Kp.sqL {H H' : Hp} {a : Addr} {xs : List V} (s : Kp H H') (h : SqL K H a xs) : SqL K H' a xs := by
  rcases h with (h | ⟨o, h⟩) | h
  · exact .inl (.inl (s _ _ h rfl))
  · exact .inl (.inr ⟨o, s _ _ h rfl⟩)
  · exact .inr h
theorem Kp.sqT {H H' : Hp} {a : Addr} {xs : List V} (s : Kp H H') (h : SqT K H a xs) : SqT K H' a xs := by
  rcases h with (h | ⟨o, h⟩) | h
  · exact .inl (.inl (s _ _ h rfl))
  · exact .inl (.inr ⟨o, s _ _ h rfl⟩)
  · exact .inr h
theorem Kp.dp {H H' : Hp} {v : V} {d : PyData} (s : Kp H H') (h : Dp K H v d) : Dp K H' v d := (dp_of (fun _ _ q => s.sqL q) (fun _ _ q => s.sqT q)).1 h
theorem Kp.dps {H H' : Hp} {vs : List V} {ds : List PyData} (s : Kp H H') (h : DpAll K H vs ds) : DpAll K H' vs ds := (dp_of (fun _ _ q => s.sqL q) (fun _ _ q => s.sqT q)).2 h
theorem Kp.nm {H H' : Hp} {v : V} {o : Option (List (Key × PyData))} (s : Kp H H') (h : NmAt K H v o) : NmAt K H' v o := by
  cases h with
  | no h => exact .no (s.dp h)
  | dct e hk h hz => exact .dct (s _ _ e rfl) hk (s.dps h) hz
theorem Kp.draw {H H' : Hp} {d l c : Addr} (s : Kp H H') (D : DrawAt H d l c) : DrawAt H' d l c := by
  obtain ⟨h1, h2, h3, r, t, ls, cs, e1, e2, e3, r2⟩ := D
  exact ⟨h1, h2, h3, r, t, ls, cs, s _ _ e1 rfl, s _ _ e2 rfl, s _ _ e3 rfl, r2⟩
/-- the tables over what a draw leaves -/
theorem tabs_but {T : List (Addr × Str)} {H H' : Hp} {d l c : Addr} (t : Tabs T H) (D : DrawAt H d l c) (B : But H H' d l) : Tabs T H' := fun p hp => by
  obtain ⟨ps, h1, h2, h3⟩ := t p hp
  obtain ⟨_, _, _, r, t', ls, cs, ed, el, _⟩ := D
  refine ⟨ps, B _ _ h1 (ne_of h1 ed (by intro z; cases z)) (ne_of h1 el (by intro z; cases z)), h2, fun pos cv hc => ?_⟩
  obtain ⟨c0, e1, e2⟩ := h3 pos cv hc
  exact ⟨c0, e1, B _ _ e2 (ne_of e2 ed (by intro z; cases z)) (ne_of e2 el (by intro z; cases z))⟩
/-- a lambda is no code object -/
theorem lmO_ne {f c0 : Addr} {q q2 : Str} {params : Arguments} {body : Expr} {scope : Scope} {cl : List (Str × Addr)} {c' : Addr} : LmO f q params body scope cl c' ≠ CodeO c0 q2 ∨ f ≠ c0 := by
  by_cases e : f = c0
  · subst e
    refine .inl fun z => ?_
    unfold LmO CodeO at z
    have z1 := HO.ext.inj z
    have g : (Heap.push ⟨Array.replicate f default, {}⟩ (PySem.W.kla_obj "<lambda>" q params body scope cl .none c' .none)).get? f = some (PySem.W.kla_obj "<lambda>" q params body scope cl .none c' .none) := by
      have s := Heap.get?_push_size (⟨Array.replicate f default, {}⟩ : Heap) (o := PySem.W.kla_obj "<lambda>" q params body scope cl .none c' .none) rfl
      rw [show (⟨Array.replicate f default, {}⟩ : Heap).objs.size = f from Array.size_replicate] at s
      exact s
    have y : ∃ (oc : Obj) (vs : Array Value) (t : Tok), (Heap.push ⟨Array.replicate f default, {}⟩ (PySem.W.kla_obj "<lambda>" q params body scope cl .none c' .none)).get? f = some oc ∧ oc.data = .fields vs ∧ vs[1]? = some (.str q2 t) :=
      (congrFun z1 _).mp ⟨.none, .none, g⟩
    obtain ⟨oc, vs, t, y1, y2, _⟩ := y
    rw [g] at y1
    cases y1
    cases y2
  · exact .inr e
end
section
variable {K : PySem.W.Frag} {H : Hp}
theorem dps_app {xs ys : List V} {ds es : List PyData} (h : DpAll K H xs ds) (h2 : DpAll K H ys es) : DpAll K H (xs ++ ys) (ds ++ es) := by
  have main : ∀ (xs : List V) (ds : List PyData), DpAll K H xs ds → DpAll K H (xs ++ ys) (ds ++ es) := by
    intro xs
    induction xs with
    | nil => intro ds h; cases h; exact h2
    | cons y zs ih =>
      intro ds h
      cases h with
      | cons a b => exact .cons a (ih _ b)
  exact main xs ds h
end
section
variable {K : PySem.W.Frag} {H : Hp}
theorem dps_by {vs : List V} {ds : List PyData} (hl : vs.length = ds.length) (h : ∀ (i : Nat) (v : V) (d : PyData), vs[i]? = some v → ds[i]? = some d → Dp K H v d) : DpAll K H vs ds := by
  have main : ∀ (vs : List V) (ds : List PyData), vs.length = ds.length → (∀ (i : Nat) (v : V) (d : PyData), vs[i]? = some v → ds[i]? = some d → Dp K H v d) → DpAll K H vs ds := by
    intro vs
    induction vs with
    | nil =>
      intro ds hl _
      cases ds with
      | nil => exact .nil
      | cons _ _ => simp at hl
    | cons v vs ih =>
      intro ds hl h
      cases ds with
      | nil => simp at hl
      | cons d ds => exact .cons (h 0 v d rfl rfl) (ih ds (by simpa using hl) fun i v' d' a b => h (i + 1) v' d' (by simpa using a) (by simpa using b))
  exact main vs ds hl h
/-- drawn names as data -/
def nmData (nm : NmS) : List (Key × PyData) := nm.map fun q => (.inr q.1, .tuple [.tuple (q.2.1.map PyData.str), .str q.2.2])
theorem NmsAt.dps {p : Addr} {nm : NmS} (n : NmsAt H p nm) : ∃ kvs : List (Key × V), H p = some (.dK kvs) ∧ kvs.map Prod.fst = nm.map (fun q => (.inr q.1 : Key)) ∧ DpAll K H (kvs.map Prod.snd) (nm.map fun q => .tuple [.tuple (q.2.1.map PyData.str), .str q.2.2]) := by
  obtain ⟨vs, hl, e, h⟩ := n
  refine ⟨_, e, ?_, ?_⟩
  · rw [List.map_fst_zip (by rw [List.length_map]; omega)]
  · rw [List.map_snd_zip (by rw [List.length_map]; omega)]
    refine dps_by (by rw [List.length_map]; exact hl) fun i v d a b => ?_
    rw [List.getElem?_map] at b
    cases eq : nm[i]? with
    | none => rw [eq] at b; cases b
    | some q =>
      rw [eq] at b
      cases b
      exact (h i v q a eq).dp
theorem NmsAt.nmD {p : Addr} {nm : NmS} (n : NmsAt H p nm) : NmD K H p (toNm nm) := by
  obtain ⟨kvs, e, h1, h2⟩ := n.dps (K := K)
  refine ⟨kvs, e, ?_, ?_⟩
  · rw [h1]
    unfold toNm
    rw [List.map_map]
    rfl
  · unfold toNm
    rw [List.map_map]
    exact h2
theorem word_len {x : Str} (h : wordD (.str x) = true) : x.length ≤ sizeLine := by
  have z : x.length ≤ 8 := by
    unfold wordD at h
    simp only [Bool.and_eq_true, Bool.not_eq_true', decide_eq_false_iff_not, decide_eq_true_eq] at h
    omega
  exact Nat.le_of_lt (small1000 (by omega))
theorem NmsAt.nmAt {p : Addr} {nm : NmS} (n : NmsAt H p nm) (g : GoodNm nm) : NmAt K H (.ref p) (some (nmData nm)) ∧ namesD (some (nmData nm)) = true := by
  obtain ⟨kvs, e, h1, h2⟩ := n.dps (K := K)
  refine ⟨.dct e ?_ ?_ fun q hq x hx => ?_, ?_⟩
  · rw [h1]
    unfold nmData
    rw [List.map_map]
    rfl
  · unfold nmData
    rw [List.map_map]
    exact h2
  · unfold nmData at hq
    obtain ⟨r, hr, rfl⟩ := List.mem_map.mp hq
    cases hx
    exact word_len (g.2 r hr).1
  · have l4 : (nmData nm).length ≤ 4 := by
      unfold nmData
      rw [List.length_map]
      exact g.1
    have l5 : ¬ 4 < (nmData nm).length := by omega
    simp only [namesD, l5, decide_false, Bool.not_false, Bool.true_and, List.all_eq_true]
    intro q hq
    unfold nmData at hq
    obtain ⟨r, hr, rfl⟩ := List.mem_map.mp hq
    obtain ⟨a, b⟩ := g.2 r hr
    show (wordD (.str r.1) && sortD _) = true
    rw [a, show sortD _ = true from b]
    rfl
theorem skip_form (n : Int) (l : NmL) : formD n l (.tuple [.str "skip"]) = true := by
  simp only [formD, show ¬ (("skip" : Str) = "name") from by decide +kernel, if_false, show forms.lookup ("skip" : Str) = some [] from by decide +kernel]
  rfl
theorem skip_word (l : NmL) : wordOk l [.str "skip"] := .inr ⟨by decide +kernel, [], by decide +kernel⟩
theorem skip_paths : pathsD [.str "skip"] = some [] := by
  simp only [pathsD, show ¬ (("skip" : Str) = "name") from by decide +kernel, if_false, show partsT.lookup ("skip" : Str) = some [] from by decide +kernel]
  rfl
theorem skip_given (l : NmL) : givenD l [] [.str "skip"] = some ("do" : Str) := by
  simp only [givenD, show ¬ (("skip" : Str) = "name") from by decide +kernel, show ¬ (("skip" : Str) = "never") from by decide +kernel, if_false, show givens.lookup ("skip" : Str) = some ("do" : Str) from by decide +kernel]
end
/-- what lets no error out passes -/
theorem passF {X : Cx} : Passes (L2.CX X.prog X.w) X (fun _ _ _ => False) := fun _ _ _ _ _ _ _ h => by
  obtain ⟨_, _, _, _, _, _, _, _, _, _, _, _, z⟩ := h
  exact z.elim
end Jd
/-! `{**d, k: v}`: a dict with text or number keys put into another; the display. -/
namespace Mg
open PySem PySem.Spec PyProof.Rows L2
section
variable {prog : Program} {w : World} {K : Type} [DecidableEq K] {knd : KeyKind prog w K} {A : Around} {E : Value → Shared → Prop} {s : Shared}
/-- one entry is put -/
theorem put_one {d : Addr} {kvs : List (K × Value)} {k : K} {key v : Value} {Q : Unit → Shared → Prop} (hkey : knd.is k key = true) (hm : s.heap.DictOf knd d kvs) (hQ : ∀ h', h'.DictOf knd d (stored kvs k v) → Heap.SameBut d s.heap h' → Q () { s with heap := h' })
    (hsz : kvs.length ≤ sizeLine := by size_fits) : wpAny (model prog w) A (dictPut d (knd.hash k) key v) Q E s := by
  obtain ⟨o, es, ep, ho, hc, hd, hk, hp, hn⟩ := hm
  have small : es.size ≤ sizeLine := by
    have e1 := hp.length
    rw [Array.length_toList] at e1
    omega
  have same : (es.findIdx? fun e => knd.is k e.key) = kvs.findIdx? fun kv => decide (kv.1 = k) := by
    rw [← hp.findIdx k]
    obtain ⟨l⟩ := es
    simp
  unfold dictPut
  refine wpAny_bind (wpAny_dictFind_of hkey ho hd hk ?_)
  cases at_ : es.findIdx? fun e => knd.is k e.key with
  | some i =>
    have there := any_of_findIdx_some (same ▸ at_)
    refine wpAny_updateDict ho hd (hQ _ ⟨_, _, ep, Heap.get?_update_self _ ho (Obj.isFreed_of_dict (Obj.data_mapDict hd _)), hc.mapDict _, Obj.data_mapDict hd _, hk.modify _ _, ?_, ?_⟩ (Heap.SameBut.update ..))
    · rw [stored, if_pos there]
      have hl : (es.toList.findIdx? fun e => knd.is k e.key) = some i := by
        rw [← at_]
        obtain ⟨l⟩ := es
        simp
      have z := hp.modify hn hl v
      obtain ⟨l⟩ := es
      simpa using z
    · rw [stored, if_pos there, keys_map_store]
      exact hn
  | none =>
    have new : k ∉ kvs.map (·.1) := not_mem_of_findIdx_none (same ▸ at_)
    have no : ¬ (kvs.any fun kv => decide (kv.1 = k)) = true := fun z => by
      obtain ⟨kv, hm, he⟩ := List.any_eq_true.mp z
      exact new (List.mem_map.mpr ⟨kv, hm, of_decide_eq_true he⟩)
    refine wpAny_updateDictKeys (hz := small) ho hd (hQ _ ⟨_, _, ep + 1, Heap.get?_update_self _ ho (Obj.isFreed_of_dict (Obj.data_mapDictKeys hd _)), hc.mapDictKeys _, Obj.data_mapDictKeys hd _, hk.push hkey _, ?_, ?_⟩ (Heap.SameBut.update ..))
    · rw [stored, if_neg no]
      have z := hp.append hkey (knd.hash k) v
      obtain ⟨l⟩ := es
      simpa using z
    · rw [stored, if_neg no, List.map_append, List.nodup_append]
      refine ⟨hn, by simp, fun a ha b hb e => ?_⟩
      rw [List.map_cons, List.map_nil, List.mem_singleton] at hb
      exact new (by rw [← show b = k from hb, ← e]; exact ha)
/-- the entries of a dict are put into another -/
theorem merge_dict {d a : Addr} {kvs more : List (K × Value)} {Q : Unit → Shared → Prop} (hda : d ≠ a) (low : (a == sysModules) = false) (hd : s.heap.DictOf knd d kvs) (ha : s.heap.DictOf knd a more) (noref : ∀ (k : K) (v : Value), knd.is k v = true → ∀ b, v ≠ .ref b)
    (hQ : ∀ h', h'.DictOf knd d (merged kvs more) → h'.DictOf knd a more → Heap.SameBut d s.heap h' → Q () { s with heap := h' }) (hsz : kvs.length + more.length ≤ sizeLine := by size_fits) : wpAny (model prog w) A (mergeMapping d (.ref a) false) Q E s := by
  obtain ⟨od, esd, epd, hod, hcd, hdd, hkd, hpd, hnd⟩ := id hd
  obtain ⟨oa, es, ep, hoa, hca, hda', hka, hpa, hna⟩ := id ha
  unfold mergeMapping
  refine wpAny_bind (wpAny_isInstance ha.typeIs isSubtype_dict_dict ?_)
  simp only [if_true]
  refine wpAny_bind (wpAny_specialOf ha.typeIs F.slot_dict_iter.lookup ?_)
  refine wpAny_bind (wpAny_pure ?_)
  simp only [beq_self_eq_true, low, Bool.false_eq_true, if_false]
  have len : more.length = es.size := by
    rw [← hpa.length]
    simp
  have loop : ∀ (s1 : Shared), s1 = s → wpAny (model prog w) A (do
      let l ← dictEntries a
      let epoch ← dictEpoch a
      forIn (List.range l.size) PUnit.unit fun i (_ : PUnit) => (do
        let l' ← dictEntries a
        match l'[i]? with
          | some e => do
            holding [e.key, e.val] (dictPut d e.hash e.key e.val)
            let now ← dictEpoch a
            if (now != epoch) = true then do
                (unsupported "dict.changed-during-merge" : Sem PUnit)
                pure (ForInStep.yield PUnit.unit)
              else pure (ForInStep.yield PUnit.unit)
          | _ => do
            (unsupported "dict.changed-during-merge" : Sem PUnit)
            pure (ForInStep.yield PUnit.unit) : Sem (ForInStep PUnit))
      pure ()) Q E s1 := by
    rintro s1 rfl
    refine wpAny_bind (wpAny_dictEntries hoa hda' (wpAny_bind (wpAny_dictEpoch hoa hda' (wpAny_bind ?_))))
    refine wpAny_forIn_list _
      (fun rest _ s' => ∃ h' i, s' = { s1 with heap := h' } ∧ rest = List.range' i (es.size - i) ∧ i ≤ es.size ∧ h'.DictOf knd d (merged kvs (more.take i)) ∧ h'.get? a = some oa ∧ Heap.SameBut d s1.heap h')
      _ ?_ ?_ _ _ ⟨s1.heap, 0, rfl, by rw [List.range_eq_range']; rfl, Nat.zero_le _, by simpa [merged] using hd, hoa, Heap.SameBut.refl _ _⟩
    · rintro x rest b s' ⟨h', i, rfl, hr, hi, hd', hoo', hs'⟩
      have lt : i < es.size := by
        rcases Nat.lt_or_ge i es.size with h | h
        · exact h
        · rw [Nat.sub_eq_zero_of_le h] at hr
          cases hr
      rw [show es.size - i = (es.size - (i + 1)) + 1 by omega, List.range'_succ] at hr
      injection hr with h1 h2'
      subst h1
      refine wpAny_bind (wpAny_dictEntries hoo' hda' ?_)
      rw [Array.getElem?_eq_getElem lt]
      obtain ⟨⟨k, v⟩, hkv⟩ : ∃ kv, more[x]? = some kv := ⟨more[x]'(by rw [len]; exact lt), List.getElem?_eq_getElem _⟩
      obtain ⟨hkey, hval⟩ := hpa.get? (e := es[x]) (by simp [lt]) hkv
      obtain ⟨k', hkey', hhash⟩ := hka es[x] (Array.getElem_mem lt)
      obtain rfl : k' = k := knd.inj _ _ _ hkey' hkey
      have fits : (merged kvs (more.take x)).length ≤ sizeLine := by
        have e1 := merged_length_le kvs (more.take x)
        have e2 : (more.take x).length ≤ more.length := by rw [List.length_take]; omega
        omega
      show wpAny _ _ (holding [es[x].key, es[x].val] (dictPut d es[x].hash es[x].key es[x].val) >>= _) _ _ _
      rw [hhash, hval]
      refine wpAny_bind (wpAny_holding (put_one (hsz := fits) hkey hd' fun h2 hd2 hs2 => ?_))
      have hoa2 : h2.get? a = some oa := (hs2.2 a (Ne.symm hda)).trans hoo'
      refine wpAny_bind (wpAny_dictEpoch hoa2 hda' ?_)
      rw [if_neg (by simp)]
      exact wpAny_pure ⟨h2, x + 1, rfl, h2', lt, by rw [merged_take_succ kvs more x (k', v) hkv]; exact hd2, hoa2, hs'.trans hs2⟩
    · rintro b s' ⟨h', i, rfl, hr, hi, hd', hoo', hs'⟩
      have at_end : i = es.size := by
        rcases Nat.lt_or_ge i es.size with h | h
        · rw [show es.size - i = (es.size - (i + 1)) + 1 by omega, List.range'_succ] at hr
          cases hr
        · exact Nat.le_antisymm hi h
      rw [at_end, ← len, List.take_length] at hd'
      exact wpAny_pure (hQ h' hd' ⟨oa, es, ep, hoo', hca, hda', hka, hpa, hna⟩ hs')
  refine wpAny_bind (wpAny_dictEntries hod hdd ?_)
  by_cases hemp : esd.isEmpty = true
  · rw [if_pos hemp]
    refine wpAny_bind (wpAny_dictEntries hoa hda' ?_)
    refine wpAny_bind (wpAny_of_eq (a := PUnit.unit) ?_ (loop s rfl))
    rw [← Array.forIn_toList]
    refine forIn_yield_id _ fun e he c => ?_
    obtain ⟨k, hkey, _⟩ := hka e (Array.mem_toList_iff.mp he)
    have nr := noref k _ hkey
    split
    · rename_i b q
      exact absurd q (nr b)
    · rfl
  · rw [if_neg hemp]
    exact loop s rfl
end
end Mg
/-! `{**m, k: v}`. -/
namespace L2
open PySem PySem.Spec PyProof.Rows Mg
theorem small1000' {n : Nat} (h : n ≤ 1000) : n < sizeLine := Nat.lt_of_le_of_lt h (by decide)
section
variable {X : Cx} {pins : List (Addr × Obj)} {σ : St} {H : Hp} {s : Shared}
/-- {**m, k: v} -/
def tStar (tm tk tv : TE) : TE := fun σ H Q => ∀ d, H d = none → tm σ (upd H d (.dK [])) fun x H1 => ∃ a kvs, x = .ref a ∧ a ≠ d ∧ H1 a = some (.dK kvs) ∧ H1 d = some (.dK []) ∧ kvs.length ≤ 1000 ∧
  ∀ b, upd H1 d (.dK (mergeK [] kvs)) b = none → tk σ (upd (upd H1 d (.dK (mergeK [] kvs))) b (.dK [])) fun y H2 => tv σ H2 fun z H3 => ∃ k : Key, y = kV k ∧ H3 b = some (.dK []) ∧ H3 d = some (.dK (mergeK [] kvs)) ∧
    Q (.ref d) (upd (upd H3 b (.dK [(k, z)])) d (.dK (mergeK (mergeK [] kvs) [(k, z)])))
theorem pe_star1 {m k v : Expr} {tm tk tv : TE} {pos : Pos} (hm : PE X m tm) (hk : PE X k tk) (hv : PE X v tv) : PE X (.Dict [none, some k] [m, v] pos) (tStar tm tk tv) := by
  refine ⟨fun pins s σ H Q I q => ?_⟩
  show wpAny _ _ (do standAt pos; dictDisplay [(none, do let x ← eval m X.env; standAt pos; pure x), (some (eval k X.env), do let x ← eval v X.env; standAt pos; pure x)]) _ _ _
  refine wpAny_bind (wpAny_standAt ?_)
  unfold dictDisplay
  simp only [List.forIn_cons, List.forIn_nil, List.isEmpty_nil, if_true, pure_bind]
  have noref : ∀ (k : Key) (v : Value), (mixKind X.prog X.w).is k v = true → ∀ b, v ≠ .ref b := fun k v h b e => by
    have z := (mixKind X.prog X.w).byValue k v h
    rw [e] at z
    cases z
  have hn := I.hok.fresh (Nat.le_refl s.heap.objs.size)
  have I1 := I.laid (a := s.heap.objs.size) (o := .dK []) (h' := s.heap.push { cls := .type "dict", data := .dict #[] }) (t' := s.toks) (fun _ _ q => Heap.get?_push_of_some _ q) (Nat.le_refl _) (dk_empty s.heap I.big)
  generalize hd0 : s.heap.objs.size = d at hn I1
  refine wpAny_bind (wpAny_bind (wpAny_bind (wpAny_alloc ?_)))
  rw [hd0]
  refine wpAny_bind (wpAny_holding (wpAny_bind (thn (hm.run pins _ σ _ _ I1 (q d hn)) fun u s1 hh => wpAny_bind (wpAny_standAt (wpAny_pure ?_)))))
  obtain ⟨x, H1, I2, rx, a, kvs, rfl, ad, ea, ed, len, q2⟩ := hh
  obtain rfl : u = Value.ref a := rx
  obtain ⟨za, lowa, va, ra, da⟩ := dk_of I2.hok ea
  obtain ⟨zd, lowd, vd, rd, dd⟩ := dk_of I2.hok ed
  cases rd
  have lva : va.length ≤ 1000 := by rw [← ra.length]; exact len
  refine wpAny_bind (wpAny_onRaise (wpAny_tryCatch (wpAny_onRaise (wpAny_holding (merge_dict (knd := mixKind X.prog X.w) (Ne.symm ad) lowa dd da noref (fun h' hd' ha' hs => ?_) (by rw [sizeLine_eq, List.length_nil]; omega))))))
  have lm : (mergeK [] kvs).length ≤ 1000 := by
    have z := length_mergeK kvs []
    rw [List.length_nil] at z
    omega
  have hed : ∃ q, h'.get? d = some q := let ⟨q, _, _, e, _⟩ := hd'; ⟨q, e⟩
  have I3 := d_write (t' := s1.toks) I2 (by rw [ed]; exact True.intro) hs hed (dk_new (H' := upd H1 d (.dK (mergeK [] kvs))) (Nat.le_of_lt (small1000' lm)) lowd (ra.merge .nil) hd')
  refine wpAny_pure ?_
  dsimp only [List.nil_append]
  rw [if_neg (by simp)]
  refine wpAny_bind (wpAny_pure ?_)
  dsimp only
  refine wpAny_pure ?_
  dsimp only
  rw [if_neg (by simp)]
  refine wpAny_bind (wpAny_bind (wpAny_holding (wpAny_subDict (knd := mixKind X.prog X.w) (by simp) ?_)))
  have nb := I3.hok.fresh (Nat.le_refl h'.objs.size)
  have I4 := I3.laid (a := h'.objs.size) (o := .dK []) (h' := h'.push { cls := .type "dict", data := .dict #[] }) (t' := s1.toks) (fun _ _ q => Heap.get?_push_of_some _ q) (Nat.le_refl _) (dk_empty h' I3.big)
  generalize hb0 : h'.objs.size = b at nb I4 ⊢
  refine thn ((pps_cons (pos := pos) hk hv (pps_nil (pos := pos))).run pins _ σ _ (fun ps H3 => ∃ y z, ps = [(y, z)] ∧ ∃ k : Key, y = kV k ∧ H3 b = some (.dK []) ∧ H3 d = some (.dK (mergeK [] kvs)) ∧ Q (.ref d) (upd (upd H3 b (.dK [(k, z)])) d (.dK (mergeK (mergeK [] kvs) [(k, z)])))) I4 ?_) fun ws s2 hh => ?_
  · refine Eq.mp (congrArg (tk σ _) (funext fun x => funext fun H2 => congrArg (tv σ H2) (funext fun y => funext fun H3 => propext ⟨fun hh => ?_, fun hh => ?_⟩))) (q2 b nb)
    · obtain ⟨k, e, r⟩ := hh
      exact ⟨x, y, rfl, k, e, r⟩
    · obtain ⟨_, _, e, k, r⟩ := hh
      cases e
      exact ⟨k, r⟩
  · obtain ⟨ps, H3, I5, rel, y, z, rfl, k', rfl, eb, ed3, hQ⟩ := hh
    obtain ⟨rs, c, rk⟩ := carries_of (P := X.prog) (w := X.w) (kvs := [(k', z)]) rel
    obtain ⟨zb, lowb, vb, rb, db⟩ := dk_of I5.hok eb
    cases rb
    refine ⟨rs, c, db, fun h2 dd2 hs2 => ?_⟩
    have one : mergeK [] [(k', z)] = [(k', z)] := by simp [mergeK, putK]
    have heb : ∃ q, h2.get? b = some q := let ⟨q, _, _, e, _⟩ := dd2; ⟨q, e⟩
    have rk1 := rk.merge (kvs := []) (vs := []) .nil
    rw [one] at rk1
    have I6 := d_write (t' := s2.toks + ws.length) I5 (by rw [eb]; exact True.intro) hs2 heb (dk_new (H' := upd H3 b (.dK [(k', z)])) (Nat.le_of_lt (small1000' (by show 1 ≤ 1000; decide))) lowb rk1 dd2)
    have db_ : d ≠ b := ne_of_none (o := .dK (mergeK [] kvs)) upd_same nb
    have ed6 : upd H3 b (.dK [(k', z)]) d = some (.dK (mergeK [] kvs)) := (upd_ne db_).trans ed3
    obtain ⟨z6, low6, v6, r6, d6⟩ := dk_of I6.hok ed6
    have l6 : v6.length ≤ 1000 := by rw [← r6.length]; exact lm
    have lrs : (merged [] rs).length = 1 := by rw [← rk1.length]; rfl
    refine wpAny_bind (wpAny_onRaise (wpAny_holding (merge_dict (knd := mixKind X.prog X.w) db_ lowb d6 dd2 noref (fun h3 hd3 hb3 hs3 => ?_) (by rw [sizeLine_eq, lrs]; omega))))
    have hed3 : ∃ q, h3.get? d = some q := let ⟨q, _, _, e, _⟩ := hd3; ⟨q, e⟩
    have l7 : (mergeK (mergeK [] kvs) [(k', z)]).length ≤ sizeLine := by
      have e1 := length_mergeK [(k', z)] (mergeK [] kvs)
      rw [List.length_singleton] at e1
      rw [sizeLine_eq]
      omega
    have I7 := d_write (t' := s2.toks + ws.length) I6 (by rw [ed6]; exact True.intro) hs3 hed3 (dk_new (H' := upd (upd H3 b (.dK [(k', z)])) d (.dK (mergeK (mergeK [] kvs) [(k', z)]))) l7 low6 (rk1.merge r6) hd3)
    exact wpAny_pure (wpAny_pure ⟨.ref d, _, I7, rfl, hQ⟩)
end
end L2
/-! shapes.py: given_word, names_within, part_along. -/
namespace Jd
open PySem PySem.Spec PyProof.Rows L2
abbrev sGW : Stmt := top 28
abbrev sNW : Stmt := top 29
abbrev sPA : Stmt := top 30
theorem scGW : FnScope ["term", "number"] ["term", "number"] (defScope sGW) := ⟨rfl, rfl, rfl, by decide +kernel, rfl, by decide +kernel, by decide +kernel⟩
theorem scNW : FnScope ["names", "term", "number", "word"] ["names", "term", "number"] (defScope sNW) := ⟨rfl, rfl, rfl, by decide +kernel, rfl, by decide +kernel, by decide +kernel⟩
theorem scPA : FnScope ["term", "path", "at"] ["term", "path"] (defScope sPA) := ⟨rfl, rfl, rfl, by decide +kernel, rfl, by decide +kernel, by decide +kernel⟩
/-- the word that a term gives in its part of this number -/
def givesD : List PyData → Int → Option Str
  | .str x :: ds, k => if x = "new" then (match ds with | .str y :: _ => some y | _ => none) else if x = "made" ∧ k = 1 then (match ds with | _ :: .str y :: _ => some y | _ => none) else none
  | _, _ => none
/-- where a word must stand one does -/
def GivesOk : List PyData → Prop
  | .str x :: ds => (x = "new" → ∃ y r, ds = .str y :: r) ∧ (x = "made" → ∃ a y r, ds = a :: .str y :: r)
  | _ => False
section
variable {P : Program} {w : World} {K : PySem.W.Frag} {mg : Str → Option Value} {base : Heap} {H : Hp}
def optV : Option Str → V
  | some y => .str y
  | none => .non
def spGW (K : PySem.W.Frag) : Sp := fun vs H Q _ => ∃ (t : Addr) (k : Int) (xs : List V) (ds : List PyData), vs = [.ref t, .int k] ∧ SqT K H t xs ∧ DpAll K H xs ds ∧ GivesOk ds ∧ Q (optV (givesD ds k)) H
theorem ok_gw {f : Addr} {fd : FuncData} (F : Fun K "given_word" "given_word" sGW f fd) : FnOk P w K mg base CX0 1 f fd ["term", "number"] (spGW K) := by
  refine F.ok scGW (fun vs H Q E h => ?_) (fun cdv A outer s H vs Q E hr h => ?_)
  · obtain ⟨t, k, xs, ds, rfl, _⟩ := h
    rfl
  · obtain ⟨t, n, xs, ds, rfl, ht, hs, hg, k⟩ := h
    refine ⟨_, pss_cons (ps_if (pt_cmpR op_eq (pe_ix ix_tup (pv 0) pe_int (fun _ _ => rfl)) pe_str (nomark _)) (pss_one (ps_ret (pe_ix ix_tup (pv 0) pe_int (fun _ _ => rfl)))) pss_nil)
      (pss_cons (ps_if (PW.pt (pw_and (pt_cmpR op_eq (pe_ix ix_tup (pv 0) pe_int (fun _ _ => rfl)) pe_str (nomark _)) (pw_and1 (pt_cmpR op_eq (pv 1) pe_int (nomark _))))) (pss_one (ps_ret (pe_ix ix_tup (pv 0) pe_int (fun _ _ => rfl)))) pss_nil)
      (pss_one (ps_ret pe_non))), ?_⟩
    cases hs with
    | nil => exact hg.elim
    | @cons x0 xs d0 ds h0 hs =>
    cases d0 with
    | str x =>
      cases h0
      refine ⟨_, rfl, t, _, 0, _, rfl, rfl, ht, atI_nat (j := 0) rfl, rfl, _, rfl, ?_⟩
      rw [dec_str]
      by_cases e1 : x = "new"
      · subst e1
        obtain ⟨y, r, rfl⟩ := hg.1 rfl
        cases hs with
        | @cons x1 xs d1 ds h1 hs =>
        cases h1
        refine ⟨_, rfl, t, _, 1, _, rfl, rfl, ht, atI_nat (j := 1) rfl, ?_⟩
        have z : givesD (.str "new" :: .str y :: r) n = some y := by simp [givesD]
        rw [z] at k
        exact k
      rw [beq_false_of_ne e1]
      refine iteF ?_
      refine ⟨_, rfl, t, _, 0, _, rfl, rfl, ht, atI_nat (j := 0) rfl, rfl, _, rfl, ?_⟩
      rw [dec_str]
      by_cases e2 : x = "made"
      · subst e2
        obtain ⟨a, y, r, rfl⟩ := hg.2 rfl
        cases hs with
        | @cons x1 xs d1 ds h1 hs =>
        cases hs with
        | @cons x2 xs d2 ds h2 hs =>
        cases h2
        refine ⟨_, rfl, rfl, _, rfl, ?_⟩
        by_cases e3 : n = 1
        · subst e3
          refine ⟨_, rfl, t, _, 2, _, rfl, rfl, ht, atI_nat (j := 2) rfl, ?_⟩
          have z : givesD (.str "made" :: a :: .str y :: r) 1 = some y := by simp [givesD, e1]
          rw [z] at k
          exact k
        · have e4 : decide (V.int n = V.int 1) = false := decide_eq_false fun z => e3 (V.int.inj z)
          rw [e4]
          have z : givesD (.str "made" :: a :: .str y :: r) n = none := by simp [givesD, e1, e3]
          rw [z] at k
          exact k
      · rw [beq_false_of_ne e2]
        have z : givesD (.str x :: ds) n = none := by simp [givesD, e1, e2]
        rw [z] at k
        exact k
    | _ => exact hg.elim
/-! ### names_within -/
def putL (l : NmL) (y : Str) (g : List PyData × Str) : NmL := if (l.any fun q => decide (q.1 = y)) = true then l.map (fun q => if q.1 = y then (q.1, g) else q) else l ++ [(y, g)]
theorem any_keys {kvs : List (Key × V)} {l : NmL} {y : Str} (h : kvs.map Prod.fst = l.map fun q => (.inr q.1 : Key)) : (kvs.any fun kv => decide (kv.1 = .inr y)) = l.any fun q => decide (q.1 = y) := by
  induction l generalizing kvs with
  | nil =>
    cases kvs with
    | nil => rfl
    | cons _ _ => cases h
  | cons q l ih =>
    cases kvs with
    | nil => cases h
    | cons kv kvs =>
      injection h with h1 h2
      rw [List.any_cons, List.any_cons, ih h2, h1]
      congr 1
      by_cases e : q.1 = y
      · rw [decide_eq_true e, decide_eq_true (show (fun q : Str × (List PyData × Str) => (Sum.inr q.1 : Key)) q = .inr y by rw [← e])]
      · rw [decide_eq_false e, decide_eq_false (fun z => e (Sum.inr.inj z))]
theorem put_nm {kvs : List (Key × V)} {l : NmL} {y : Str} {v : V} {g : List PyData × Str} (h : kvs.map Prod.fst = l.map fun q => (.inr q.1 : Key)) (hs : DpAll K H (kvs.map Prod.snd) (l.map sortOf)) (hv : Dp K H v (.tuple [.tuple g.1, .str g.2])) :
    (putK kvs (.inr y) v).map Prod.fst = (putL l y g).map (fun q => (.inr q.1 : Key)) ∧ DpAll K H ((putK kvs (.inr y) v).map Prod.snd) ((putL l y g).map sortOf) := by
  unfold putK putL
  rw [any_keys h]
  by_cases e : (l.any fun q => decide (q.1 = y)) = true
  · rw [if_pos e, if_pos e]
    clear e
    induction l generalizing kvs with
    | nil =>
      cases kvs with
      | nil => exact ⟨rfl, .nil⟩
      | cons _ _ => cases h
    | cons q l ih =>
      cases kvs with
      | nil => cases h
      | cons kv kvs =>
        injection h with h1 h2
        cases hs with
        | cons a b =>
        obtain ⟨i1, i2⟩ := ih h2 b
        have c : (kv.1 = (.inr y : Key)) ↔ q.1 = y := by
          rw [h1]
          exact ⟨fun z => Sum.inr.inj z, fun z => by rw [← z]⟩
        by_cases e : q.1 = y
        · have e' := c.mpr e
          simp only [List.map_cons, if_pos e, if_pos e']
          exact ⟨by rw [h1, i1], .cons hv i2⟩
        · have e' : ¬ kv.1 = (.inr y : Key) := fun z => e (c.mp z)
          simp only [List.map_cons, if_neg e, if_neg e']
          exact ⟨by rw [h1, i1], .cons a i2⟩
  · rw [if_neg e, if_neg e]
    refine ⟨by rw [List.map_append, List.map_append, h]; rfl, ?_⟩
    rw [List.map_append, List.map_append]
    exact dps_app hs (.cons hv .nil)
theorem putL_keys {l : NmL} {y : Str} {g : List PyData × Str} (h : (l.map Prod.fst).Nodup) : ((putL l y g).map Prod.fst).Nodup := by
  unfold putL
  by_cases e : (l.any fun q => decide (q.1 = y)) = true
  · rw [if_pos e]
    have z : (l.map (fun q => if q.1 = y then (q.1, g) else q)).map Prod.fst = l.map Prod.fst := by
      rw [List.map_map]
      refine List.map_congr_left fun q _ => ?_
      show (if q.1 = y then (q.1, g) else q).1 = q.1
      split <;> rfl
    rw [z]
    exact h
  · rw [if_neg e, List.map_append, List.nodup_append]
    refine ⟨h, by simp, fun a ha b hb q => ?_⟩
    simp at hb
    subst hb
    subst q
    refine e (List.any_eq_true.mpr ?_)
    obtain ⟨r, hr, er⟩ := List.mem_map.mp ha
    exact ⟨r, hr, decide_eq_true er⟩
theorem merge_nil {kvs : List (Key × V)} (h : (kvs.map Prod.fst).Nodup) : mergeK [] kvs = kvs := by
  have main : ∀ (more acc : List (Key × V)), ((acc ++ more).map Prod.fst).Nodup → mergeK acc more = acc ++ more := by
    intro more
    induction more with
    | nil => intro acc _; simp [mergeK]
    | cons q r ih =>
      intro acc hn
      have no : ¬ (acc.any fun kv => decide (kv.1 = q.1)) = true := fun z => by
        obtain ⟨kv, hm, he⟩ := List.any_eq_true.mp z
        rw [List.map_append, List.map_cons, List.nodup_append] at hn
        exact hn.2.2 kv.1 (List.mem_map.mpr ⟨kv, hm, rfl⟩) q.1 List.mem_cons_self (of_decide_eq_true he)
      have e : mergeK acc (q :: r) = mergeK (acc ++ [q]) r := by
        show mergeK (putK acc q.1 q.2) r = _
        unfold putK
        rw [if_neg no]
      rw [e, ih (acc ++ [q]) (by simpa using hn)]
      simp
  simpa using main kvs [] (by simpa using h)
/-- BOX and NUMBER -/
structure SortTop (K : PySem.W.Frag) (mg : Str → Option Value) (aB aN : Addr) : Prop where
  mB : mg "BOX" = some (.ref aB)
  mN : mg "NUMBER" = some (.ref aN)
  dB : ∀ H : Hp, Dp K H (.ref aB) (.tuple [.tuple [], .str "box"])
  dN : ∀ H : Hp, Dp K H (.ref aN) (.tuple [.tuple [], .str "num"])
/-- what the word means within -/
def inS : List PyData → List PyData × Str
  | .str x :: _ => if x = "new" then ([], "box") else ([], "num")
  | _ => ([], "num")
def spNW (K : PySem.W.Frag) : Sp := fun vs H Q _ => ∃ (a t : Addr) (k : Int) (l : NmL) (xs : List V) (ds : List PyData), vs = [.ref a, .ref t, .int k] ∧ NmD K H a l ∧ (l.map Prod.fst).Nodup ∧ l.length ≤ 100 ∧ SqT K H t xs ∧ DpAll K H xs ds ∧ GivesOk ds ∧
  (givesD ds k = none → Q (.ref a) H) ∧ ∀ y, givesD ds k = some y → ∀ b H', Same H H' → NmD K H' b (putL l y (inS ds)) → Q (.ref b) H'
theorem ok_nw {f fG aB aN : Addr} {fd fdG : FuncData} (F : Fun K "names_within" "names_within" sNW f fd) (T : SortTop K mg aB aN) (GG : FnOk P w K mg base CX0 1 fG fdG ["term", "number"] (spGW K)) (kG : PySem.W.keepIn K (.ref fG) = true) (bG : Binds K fdG ["term", "number"] []) (mG : mg "given_word" = some (.ref fG)) :
    FnOk P w K mg base CX0 2 f fd ["names", "term", "number"] (spNW K) := by
  refine F.ok scNW (fun vs H Q E h => ?_) (fun cdv A outer s H vs Q E hr h => ?_)
  · obtain ⟨a, t, k, l, xs, ds, rfl, _⟩ := h
    rfl
  · obtain ⟨a, t, n, l, xs, ds, rfl, hn, hnd, hl, ht, hs, hg, k0, k1⟩ := h
    have nd := scNW.nd
    refine ⟨_, pss_cons (ps_set (i := 3) nd rfl (Or.inl rfl) (pe_call GG hr rfl mG kG bG .nil pass0 (pa_cons (pv 1) (pa_cons (pv 2) pa_nil))))
      (pss_cons (ps_if (pt_cmpR op_isN (pv 3) pe_non (nomark _)) (pss_one (ps_ret (pv 0))) pss_nil)
      (pss_one (ps_ret (pe_star1 (pv 0) (pv 3) (pe_ifExp (pt_cmpR op_eq (pe_ix ix_tup (pv 1) pe_int (fun _ _ => rfl)) pe_str (nomark _)) (pe_glob (v := V.ref aB) (by rfl) T.mB rfl) (pe_glob (v := V.ref aN) (by rfl) T.mN rfl)))))), ?_⟩
    refine ⟨_, rfl, _, rfl, t, n, xs, ds, rfl, ht, hs, hg, ?_⟩
    cases eg : givesD ds n with
    | none =>
      refine ⟨_, rfl, rfl, _, rfl, ?_⟩
      rw [decide_eq_true (show optV none = V.non from rfl)]
      exact iteT ⟨_, rfl, k0 eg⟩
    | some y =>
      refine ⟨_, rfl, rfl, _, rfl, ?_⟩
      rw [decide_eq_false (show ¬ optV (some y) = V.non by intro z; cases z)]
      refine iteF ?_
      obtain ⟨kvs, ea, hk, hd⟩ := hn
      have lk : kvs.length ≤ 1000 := by
        have z := congrArg List.length hk
        rw [List.length_map, List.length_map] at z
        omega
      have nk : (kvs.map Prod.fst).Nodup := by
        rw [hk, show (l.map fun q => (.inr q.1 : Key)) = (l.map Prod.fst).map Sum.inr by rw [List.map_map]; rfl]
        exact List.Pairwise.map Sum.inr (fun _ _ h z => h (Sum.inr.inj z)) hnd
      have em := merge_nil nk
      intro d nd_
      have ad : a ≠ d := ne_of_none ea nd_
      refine ⟨.ref a, rfl, a, kvs, rfl, ad, (upd_ne ad).trans ea, upd_same, lk, fun b nb => ?_⟩
      rw [em] at nb ⊢
      have bd : b ≠ d := fun z => by
        rw [z, upd_same] at nb
        cases nb
      have nb0 : H b = none := by
        rw [upd_ne bd, upd_ne bd] at nb
        exact nb
      have s1 : Same H (upd (upd (upd H d (.dK [])) d (.dK kvs)) b (.dK [])) := fun c o e => by
        rw [upd_ne (ne_of_none e nb0), upd_ne (ne_of_none e nd_), upd_ne (ne_of_none e nd_)]
        exact e
      refine ⟨.str y, rfl, ?_⟩
      have fin : ∀ (v : V) (g : List PyData × Str), g = inS ds → (∀ H : Hp, Dp K H v (.tuple [.tuple g.1, .str g.2])) →
          ∃ k : Key, V.str y = kV k ∧ (upd (upd (upd H d (.dK [])) d (.dK kvs)) b (.dK [])) b = some (.dK []) ∧ (upd (upd (upd H d (.dK [])) d (.dK kvs)) b (.dK [])) d = some (.dK kvs) ∧
            Q (.ref d) (upd (upd (upd (upd (upd H d (.dK [])) d (.dK kvs)) b (.dK [])) b (.dK [(k, v)])) d (.dK (mergeK kvs [(k, v)]))) := fun v g hgs hv => by
        refine ⟨.inr y, rfl, upd_same, (upd_ne bd.symm).trans upd_same, k1 y eg d _ (fun c o e => ?_) ?_⟩
        · rw [upd_ne (ne_of_none e nd_), upd_ne (ne_of_none e nb0)]
          exact s1 c o e
        · obtain ⟨p1, p2⟩ := put_nm (y := y) (v := v) (g := g) hk hd (hv H)
          refine ⟨putK kvs (.inr y) v, upd_same, by rw [p1, hgs], ?_⟩
          rw [hgs] at p2
          refine dps_same (fun c o e => ?_) p2
          rw [upd_ne (ne_of_none e nd_), upd_ne (ne_of_none e nb0)]
          exact s1 c o e
      cases hs with
      | nil => exact hg.elim
      | @cons x0 xs d0 ds h0 hs =>
      cases d0 with
      | str x =>
        cases h0
        refine ⟨_, rfl, t, _, 0, _, rfl, rfl, sqT_same s1 ht, atI_nat (j := 0) rfl, rfl, _, rfl, ?_⟩
        rw [dec_str]
        by_cases e1 : x = "new"
        · subst e1
          refine iteT ?_
          exact fin (.ref aB) ([], "box") (by simp [inS]) T.dB
        · rw [beq_false_of_ne e1]
          refine iteF ?_
          exact fin (.ref aN) ([], "num") (by simp [inS, e1]) T.dN
      | _ => exact hg.elim
/-! ### part_along -/
def alongD : PyData → List Int → Option PyData
  | d, [] => some d
  | .tuple ds, i :: p => if 0 ≤ i then (match ds[i.toNat]? with | some d => alongD d p | none => none) else none
  | _, _ :: _ => none
def spPA (K : PySem.W.Frag) : Sp := fun vs H Q _ => ∃ (v : V) (b : Addr) (d d' : PyData) (p : List Int), vs = [v, .ref b] ∧ SqT K H b (p.map V.int) ∧ Dp K H v d ∧ alongD d p = some d' ∧ ∀ v', Dp K H v' d' → Q v' H
theorem ok_pa {f : Addr} {fd : FuncData} (F : Fun K "part_along" "part_along" sPA f fd) : FnOk P w K mg base CX0 1 f fd ["term", "path"] (spPA K) := by
  refine F.ok scPA (fun vs H Q E h => ?_) (fun cdv A outer s H vs Q E hr h => ?_)
  · obtain ⟨v, b, d, d', p, rfl, _⟩ := h
    rfl
  · obtain ⟨v, b, d, d', p, rfl, hb, hv, ha, k⟩ := h
    have nd := scPA.nd
    refine ⟨_, pss_cons (ps_for PassesOwn.never rfl (pi_tup (pv 1)) (pg_name (i := 2) nd rfl (Or.inl rfl)) (pss_one (ps_set (i := 0) nd rfl (Or.inl rfl) (pe_ix ix_tup (pv 0) (pv 2) (fun _ _ => rfl))))) (pss_one (ps_ret (pv 0))), ?_⟩
    refine ⟨_, rfl, b, rfl, ⟨_, hb⟩, for_tup (K := K) (a := b) (xs := p.map V.int) (fun i σ H' => H' = H ∧ ∃ v d g2, σ = [some v, some (.ref b), g2] ∧ Dp K H v d ∧ alongD d (p.drop i) = some d') ⟨rfl, v, d, none, rfl, hv, ha⟩ (fun i σ H' _ ⟨e, _⟩ => by rw [e]; exact hb) ?_ ?_⟩
    · rintro i x σ H' hx ⟨rfl, v1, d1, g2, rfl, h1, a1⟩
      rw [List.getElem?_map] at hx
      cases e : p[i]? with
      | none => rw [e] at hx; cases hx
      | some z =>
        rw [e] at hx
        obtain rfl := Option.some.inj hx
        have lt := (List.getElem?_eq_some_iff.mp e).1
        have dr : p.drop i = z :: p.drop (i + 1) := by
          rw [List.drop_eq_getElem_cons lt, (List.getElem?_eq_some_iff.mp e).2]
        rw [dr] at a1
        cases d1 with
        | tuple ds =>
          simp only [alongD] at a1
          split at a1
          · rename_i z0
            obtain ⟨j, rfl⟩ := Int.eq_ofNat_of_zero_le z0
            rw [Int.toNat_natCast] at a1
            split at a1
            · rename_i d2 hj
              obtain ⟨⟩ | ⟨⟩ | ⟨⟩ | ⟨⟩ | ⟨⟩ | @⟨c, ys, _, hc, hs⟩ := h1
              have lj : j < ys.length := by
                rw [dps_len hs]
                exact (List.getElem?_eq_some_iff.mp hj).1
              obtain ⟨d3, e3, h3⟩ := dps_get hs (List.getElem?_eq_getElem lj)
              rw [hj] at e3
              cases e3
              exact ⟨_, rfl, _, rfl, c, ys, (j : Int), _, rfl, rfl, hc, atI_nat (List.getElem?_eq_getElem lj), rfl, _, d2, _, rfl, h3, a1⟩
            · cases a1
          · cases a1
        | _ => cases a1
    · rintro σ H' ⟨rfl, v1, d1, g2, rfl, h1, a1⟩
      rw [List.length_map, List.drop_length] at a1
      have z : some d1 = some d' := by
        rw [← a1]
        cases d1 <;> rfl
      cases z
      exact ⟨v1, rfl, k v1 h1⟩
end
end Jd
/-! What a right shape says of a term; its sort, told by data. -/
namespace Jd
open PySem PySem.Spec PyProof.Rows L2 RZ
/-- a text that stands somewhere in a datum -/
inductive InD : Str → PyData → Prop
  | here {x : Str} : InD x (.str x)
  | tup {x : Str} {d : PyData} {ds : List PyData} (m : d ∈ ds) (h : InD x d) : InD x (.tuple ds)
def ShortD (d : PyData) : Prop := ∀ x, InD x d → x.length ≤ sizeLine
theorem ShortD.part {d d' : PyData} : ∀ {p : List Int}, ShortD d → alongD d p = some d' → ShortD d' := by
  intro p
  induction p generalizing d with
  | nil =>
    intro h e
    have z : some d = some d' := by rw [← e]; cases d <;> rfl
    cases z
    exact h
  | cons i p ih =>
    intro h e
    cases d with
    | tuple ds =>
      simp only [alongD] at e
      split at e
      · split at e
        · rename_i d2 hj
          exact ih (fun x hx => h x (.tup (List.mem_of_getElem? hj) hx)) e
        · cases e
      · cases e
    | _ => cases e
/-- right names: words unlike, args plain sorts -/
def NmlOk (l : NmL) : Prop := (l.map Prod.fst).Nodup ∧ ∀ q ∈ l, ∃ ss : List Str, q.2.1 = ss.map PyData.str ∧ ∀ s ∈ ss, plainD (.str s) = true
theorem NmlOk.put {l : NmL} (h : NmlOk l) (y : Str) (ds : List PyData) : NmlOk (putL l y (inS ds)) := by
  have nil : (inS ds).1 = ([] : List Str).map PyData.str := by
    unfold inS
    split
    · split <;> rfl
    · rfl
  refine ⟨putL_keys h.1, fun q hq => ?_⟩
  unfold putL at hq
  split at hq
  · obtain ⟨r, hr, rfl⟩ := List.mem_map.mp hq
    split
    · exact ⟨[], nil, by simp⟩
    · exact h.2 r hr
  · rcases List.mem_append.mp hq with m | m
    · exact h.2 q m
    · rw [List.mem_singleton] at m
      rw [m]
      exact ⟨[], nil, by simp⟩
theorem putL_len (l : NmL) (y : Str) (g : List PyData × Str) : (putL l y g).length ≤ l.length + 1 := by
  unfold putL
  split
  · simp
  · simp
/-- what words mean within a part -/
def innerD (l : NmL) (ds : List PyData) (k : Int) : NmL := match givesD ds k with
  | none => l
  | some y => putL l y (inS ds)
def strD : PyData → Str
  | .str s => s
  | _ => ""
/-- what is wanted of the parts -/
def wantedD (l : NmL) : List PyData → List Str
  | .str x :: r => if x = "name" then (match r with | .str y :: _ => (match l.lookup y with | some (ts, _) => ts.map strD | none => []) | _ => []) else ((forms.lookup x).getD []).filter isTermB
  | _ => []
/-- all that a right shape says -/
structure Shape (n : Int) (l : NmL) (d : PyData) (ds : List PyData) (ps : List (List Int)) : Prop where
  d_ : d = .tuple ds
  paths : pathsD ds = some ps
  word : wordOk l ds
  gives : GivesOk ds
  few : ps.length ≤ 1000
  same : (wantedD l ds).length = ps.length
  part : ∀ (i : Nat) (p : List Int), ps[i]? = some p → p.length ≤ 2 ∧ p ≠ [] ∧ ∃ d', alongD d p = some d'
  alike : ∀ i : Nat, (wantedD l ds)[i]? = some ("alike" : Str) → 1 ≤ i
  given : ∀ sorts : List Str, sorts.length = ps.length → ∃ g, givenD l sorts ds = some g
  fst : ∃ x r, ds = .str x :: r
theorem along_nat {ds : List PyData} {j : Nat} {d : PyData} (h : ds[j]? = some d) (p : List Int) : alongD (.tuple ds) ((j : Int) :: p) = alongD d p := by
  simp only [alongD]
  rw [if_pos (by omega), Int.toNat_natCast, h]
theorem forms_tab : ∀ q ∈ forms, ∃ is, partsT.lookup q.1 = some is ∧ (∀ i ∈ is, 1 ≤ i ∧ i ≤ (q.2.length : Int)) ∧ is.length = (q.2.filter isTermB).length ∧ is.length ≤ 3 ∧ (q.2.filter isTermB)[0]? ≠ some ("alike" : Str) ∧ (q.1 = "never" ∨ (givens.lookup q.1).isSome = true ∨ 1 ≤ is.length) ∧ q.1 ≠ "name" := by
  have t : ∀ q ∈ forms, (match partsT.lookup q.1 with | some is => is.all (fun i => decide (1 ≤ i) && decide (i ≤ (q.2.length : Int))) && decide (is.length = (q.2.filter isTermB).length) && decide (is.length ≤ 3) && decide ((q.2.filter isTermB)[0]? ≠ some ("alike" : Str)) && (decide (q.1 = "never") || (givens.lookup q.1).isSome || decide (1 ≤ is.length)) && decide (q.1 ≠ "name") | none => false) = true := by decide +kernel
  intro q hq
  have z := t q hq
  cases e : partsT.lookup q.1 with
  | none => rw [e] at z; cases z
  | some is =>
    rw [e] at z
    simp only [Bool.and_eq_true, Bool.or_eq_true, decide_eq_true_eq, List.all_eq_true] at z
    obtain ⟨⟨⟨⟨⟨z1, z2⟩, z3⟩, z4⟩, z5⟩, z6⟩ := z
    have z7 : q.1 = "never" ∨ (givens.lookup q.1).isSome = true ∨ 1 ≤ is.length := by
      rcases z5 with (a | b) | c
      · exact .inl a
      · exact .inr (.inl b)
      · exact .inr (.inr c)
    exact ⟨is, rfl, z1, z2, z3, z4, z7, z6⟩
theorem wanted_word {l : NmL} {x : Str} {r : List PyData} {ws : List Str} (n : x ≠ "name") (e : forms.lookup x = some ws) : wantedD l (.str x :: r) = ws.filter isTermB := by
  simp only [wantedD]
  rw [if_neg n, e]
  rfl
theorem filt_none {l : List Str} : (l.filter isTermB)[0]? ≠ some ("alike" : Str) → ∀ i : Nat, (l.filter isTermB)[i]? = some ("alike" : Str) → 1 ≤ i := fun h i e => by
  cases i with
  | zero => exact absurd e h
  | succ n => omega
theorem plain_ne {s : Str} (h : plainD (.str s) = true) : s ≠ "alike" := fun z => by
  subst z
  exact absurd h (by decide +kernel)
theorem strs_back : ∀ ss : List Str, (ss.map PyData.str).map strD = ss
  | [] => rfl
  | s :: r => by rw [List.map_cons, List.map_cons, strs_back r]; rfl
theorem thing_word {n : Int} {d : PyData} : thingD n "word" d = wordD d := by
  unfold thingD
  rw [if_neg (by decide +kernel), if_pos rfl]
theorem thing_end {n : Int} {d : PyData} : thingD n "ending" d = endD d := by
  unfold thingD
  rw [if_neg (by decide +kernel), if_neg (by decide +kernel), if_pos rfl]
theorem shape_of {n : Int} {l : NmL} {d : PyData} (h : formD n l d = true) (ok : NmlOk l) (many : ∀ ds, d = .tuple ds → ∀ as, PyData.tuple as ∈ ds → as.length ≤ 1000) : ∃ ds ps, Shape n l d ds ps := by
  cases d with
  | tuple ds =>
    cases ds with
    | nil => cases h
    | cons d0 r =>
    cases d0 with
    | str x =>
      by_cases e1 : x = "name"
      · subst e1
        have hu : useD l (.str "name" :: r) = true := by
          simp only [formD] at h
          exact h
        match r, hu with
        | [.str y, .tuple as], hu =>
          simp only [useD, Bool.and_eq_true] at hu
          obtain ⟨hw, hm⟩ := hu
          cases el : l.lookup y with
          | none => rw [el] at hm; cases hm
          | some tg =>
            obtain ⟨ts, g⟩ := tg
            rw [el] at hm
            have la : as.length = ts.length := by simpa using hm
            obtain ⟨ss, es, ps⟩ := ok.2 (y, (ts, g)) (PySem.mem_of_lookup el)
            have es' : ts = ss.map PyData.str := es
            have ew : wantedD l [.str "name", .str y, .tuple as] = ss := by
              simp only [wantedD, if_true, el]
              rw [es', strs_back]
            have ep : pathsD [.str "name", .str y, .tuple as] = some ((List.range as.length).map fun i => [2, ((i : Nat) : Int)]) := by simp [pathsD]
            refine ⟨_, _, rfl, ep, .inl ⟨rfl, y, _, ts, g, rfl, el⟩, ⟨fun z => absurd z (by decide +kernel), fun z => absurd z (by decide +kernel)⟩, ?_, ?_, fun i p e => ?_, fun i e => ?_, fun sorts _ => ?_, ⟨_, _, rfl⟩⟩
            · rw [List.length_map, List.length_range]
              exact many _ rfl as (by simp)
            · rw [ew, List.length_map, List.length_range, la, es', List.length_map]
            · rw [List.getElem?_map] at e
              cases er : (List.range as.length)[i]? with
              | none => rw [er] at e; cases e
              | some j =>
                rw [er] at e
                cases e
                have hj : j < as.length := by
                  have m := List.mem_of_getElem? er
                  exact List.mem_range.mp m
                refine ⟨by show 2 ≤ 2; decide, by simp, as[j], ?_⟩
                have s1 := along_nat (ds := [.str "name", .str y, .tuple as]) (j := 2) (d := .tuple as) rfl [((j : Nat) : Int)]
                have s2 := along_nat (ds := as) (j := j) (List.getElem?_eq_getElem hj) []
                refine s1.trans (s2.trans ?_)
                cases as[j] <;> rfl
            · rw [ew] at e
              exact absurd rfl (plain_ne (ps _ (List.mem_of_getElem? e)))
            · refine ⟨g, ?_⟩
              simp only [givenD, if_true, el]
              rfl
      · cases ef : forms.lookup x with
        | none =>
          simp only [formD] at h
          rw [if_neg e1, ef] at h
          cases h
        | some ws =>
          simp only [formD] at h
          rw [if_neg e1, ef] at h
          obtain ⟨hlen, hall⟩ := (Bool.and_eq_true _ _).mp h
          have lr : r.length = ws.length := by simpa using hlen
          obtain ⟨is, p1, p2, p3, p4, p5, p6, _⟩ := forms_tab (x, ws) (PySem.mem_of_lookup ef)
          have ew := wanted_word (l := l) (r := r) e1 ef
          have ep : pathsD (.str x :: r) = some (is.map fun i => [i]) := by
            simp only [pathsD]
            rw [if_neg e1, p1]
            rfl
          have thing : ∀ (j : Nat) (wd : Str) (t : PyData), ws[j]? = some wd → r[j]? = some t → thingD n wd t = true := fun j wd t h1 h2 => by
            rw [List.all_eq_true] at hall
            exact hall (wd, t) (List.mem_of_getElem? (i := j) (by rw [List.getElem?_zip_eq_some]; exact ⟨h1, h2⟩))
          refine ⟨_, _, rfl, ep, .inr ⟨e1, ws, ef⟩, ⟨fun z => ?_, fun z => ?_⟩, ?_, ?_, fun i p e => ?_, fun i e => ?_, fun sorts hso => ?_, ⟨_, _, rfl⟩⟩
          · subst z
            rw [show forms.lookup ("new" : Str) = some (["word", "figure", "some"] : List Str) by decide +kernel] at ef
            cases ef
            match r, lr with
            | [a, b, c], _ =>
              have w := thing 0 "word" a rfl rfl
              rw [thing_word] at w
              obtain ⟨y, rfl⟩ := word_str w
              exact ⟨y, _, rfl⟩
          · subst z
            rw [show forms.lookup ("made" : Str) = some (["num", "word", "do"] : List Str) by decide +kernel] at ef
            cases ef
            match r, lr with
            | [a, b, c], _ =>
              have w := thing 1 "word" b rfl rfl
              rw [thing_word] at w
              obtain ⟨y, rfl⟩ := word_str w
              exact ⟨a, y, _, rfl⟩
          · rw [List.length_map]
            omega
          · rw [ew, List.length_map]
            exact p3.symm
          · rw [List.getElem?_map] at e
            cases ei : is[i]? with
            | none => rw [ei] at e; cases e
            | some k =>
              rw [ei] at e
              cases e
              obtain ⟨k1, k2⟩ := p2 k (List.mem_of_getElem? ei)
              obtain ⟨j, rfl⟩ : ∃ j : Nat, k = ((j + 1 : Nat) : Int) := ⟨(k - 1).toNat, by omega⟩
              have hj : j < r.length := by rw [lr]; simp only at k2; omega
              refine ⟨by show 1 ≤ 2; decide, by simp, r[j], ?_⟩
              have s1 := along_nat (ds := .str x :: r) (j := j + 1) (d := r[j]) (by rw [List.getElem?_cons_succ]; exact List.getElem?_eq_getElem hj) []
              refine s1.trans ?_
              cases r[j] <;> rfl
          · rw [ew] at e
            exact filt_none p5 i e
          · by_cases e2 : x = "never"
            · subst e2
              rw [show forms.lookup ("never" : Str) = some (["ending"] : List Str) by decide +kernel] at ef
              cases ef
              match r, lr with
              | [a], _ =>
                have w := thing 0 "ending" a rfl rfl
                rw [thing_end] at w
                obtain ⟨y, rfl⟩ : ∃ y, a = .str y := by
                  cases a with
                  | str y => exact ⟨y, rfl⟩
                  | _ => cases w
                refine ⟨y, ?_⟩
                simp only [givenD]
                rw [if_neg e1, if_pos trivial]
            · have base_ : givenD l sorts (.str x :: r) = (match givens.lookup x with | some g => some g | none => sorts.getLast?) := by
                simp only [givenD]
                rw [if_neg e1, if_neg e2]
                try (cases givens.lookup x <;> rfl)
              rw [base_]
              cases eg : givens.lookup x with
              | some g => exact ⟨g, rfl⟩
              | none =>
                rcases p6 with z | z | z
                · exact absurd z e2
                · rw [show (x, ws).1 = x from rfl, eg] at z
                  cases z
                · rw [List.length_map] at hso
                  have ne : sorts ≠ [] := fun q => by
                    rw [q] at hso
                    simp at hso
                    omega
                  exact ⟨sorts.getLast ne, List.getLast?_eq_some_getLast ne⟩
    | _ => cases h
  | _ => cases h
end Jd
/-! _sort_at of terms.py, whole: the sort of a term, or the place of its first wrong piece. -/
namespace Jd
open PySem PySem.Spec PyProof.Rows L2 RZ
abbrev Told := Except (List Int) (Str × Int)
/-- the parts one behind another; k: the number of the next one -/
def goM (rec_ : NmL → PyData → List Int → Int → Told) (l : NmL) (ds : List PyData) (at_ : List Int) (wanted : List Str) : List (List Int) → Nat → List Str → Int → Except (List Int) (List Str × Int)
  | [], _, sorts, c => .ok (sorts, c)
  | p :: r, k, sorts, c => match alongD (.tuple ds) p with
    | none => .error at_
    | some d => match rec_ (innerD l ds k) d (at_ ++ p) c with
      | .error e => .error e
      | .ok (g, c') => if isWantedD g (wanted.getD k "") sorts = true then goM rec_ l ds at_ wanted r (k + 1) (sorts ++ [g]) c' else .error (at_ ++ p)
/-- j: 13 less the depth -/
def sortM (n : Int) : Nat → NmL → PyData → List Int → Int → Told
  | 0, _, _, at_, _ => .error at_
  | j + 1, l, d, at_, c => if 60 < c + 1 then .error at_ else if formD n l d = false then .error at_ else match d with
    | .tuple ds => match goM (sortM n j) l ds at_ (wantedD l ds) ((pathsD ds).getD []) 0 [] (c + 1) with
      | .error e => .error e
      | .ok (sorts, c') => match givenD l sorts ds with
        | some g => .ok (g, c')
        | none => .error at_
    | _ => .error at_
abbrev lookFs (n c : Int) : List (Str × V) := [("size", .int n), ("nodes", .int c)]
def LookAt (H : Hp) (u C : Addr) (n c : Int) : Prop := ∃ dx, H u = some (.ins C dx (lookFs n c))
/-- all but u is as it was -/
def Ext (H H' : Hp) (u : Addr) : Prop := ∀ b o, b ≠ u → H b = some o → H' b = some o
theorem Ext.refl (H : Hp) (u : Addr) : Ext H H u := fun _ _ _ h => h
theorem Ext.trans {H H1 H2 : Hp} {u : Addr} (a : Ext H H1 u) (b : Ext H1 H2 u) : Ext H H2 u := fun c o n h => b c o n (a c o n h)
theorem Ext.of {H H' : Hp} {u : Addr} (s : Same H H') : Ext H H' u := fun b o _ h => s b o h
section
variable {K : PySem.W.Frag} {H H' : Hp} {u C dx : Addr} {fs : List (Str × V)}
theorem Ext.sqT {b : Addr} {xs : List V} (s : Ext H H' u) (e : H u = some (.ins C dx fs)) (q : SqT K H b xs) : SqT K H' b xs := by
  rcases q with (q | ⟨o, q⟩) | q
  · exact .inl (.inl (s _ _ (ne_of q e (by intro z; cases z)) q))
  · exact .inl (.inr ⟨o, s _ _ (ne_of q e (by intro z; cases z)) q⟩)
  · exact .inr q
theorem Ext.sqL {b : Addr} {xs : List V} (s : Ext H H' u) (e : H u = some (.ins C dx fs)) (q : SqL K H b xs) : SqL K H' b xs := by
  rcases q with (q | ⟨o, q⟩) | q
  · exact .inl (.inl (s _ _ (ne_of q e (by intro z; cases z)) q))
  · exact .inl (.inr ⟨o, s _ _ (ne_of q e (by intro z; cases z)) q⟩)
  · exact .inr q
theorem Ext.dp {v : V} {d : PyData} (s : Ext H H' u) (e : H u = some (.ins C dx fs)) (q : Dp K H v d) : Dp K H' v d := (dp_of (fun _ _ q => s.sqL e q) (fun _ _ q => s.sqT e q)).1 q
theorem Ext.dps {vs : List V} {ds : List PyData} (s : Ext H H' u) (e : H u = some (.ins C dx fs)) (q : DpAll K H vs ds) : DpAll K H' vs ds := (dp_of (fun _ _ q => s.sqL e q) (fun _ _ q => s.sqT e q)).2 q
theorem Ext.nm {a : Addr} {l : NmL} (s : Ext H H' u) (e : H u = some (.ins C dx fs)) (q : NmD K H a l) : NmD K H' a l := by
  obtain ⟨kvs, h, h1, h2⟩ := q
  exact ⟨kvs, s _ _ (ne_of h e (by intro z; cases z)) h, h1, s.dps e h2⟩
end
/-- few args everywhere -/
def FewD (d : PyData) : Prop := ∀ as ds, d = .tuple ds → PyData.tuple as ∈ ds → as.length ≤ 1000
inductive Deep (P : PyData → Prop) : PyData → Prop
  | tup {ds : List PyData} (h : P (.tuple ds)) (t : ∀ d ∈ ds, Deep P d) : Deep P (.tuple ds)
  | leaf {d : PyData} (h : P d) (n : ∀ ds, d ≠ .tuple ds) : Deep P d
theorem Deep.here {P : PyData → Prop} {d : PyData} (h : Deep P d) : P d := by cases h <;> assumption
theorem Deep.part {P : PyData → Prop} {d d' : PyData} {p : List Int} (h : Deep P d) (e : alongD d p = some d') : Deep P d' := by
  induction p generalizing d with
  | nil =>
    have z : some d = some d' := by rw [← e]; cases d <;> rfl
    cases z
    exact h
  | cons i p ih =>
    cases d with
    | tuple ds =>
      simp only [alongD] at e
      split at e
      · split at e
        · rename_i d2 hj
          cases h with
          | tup _ t => exact ih (t d2 (List.mem_of_getElem? hj)) e
          | leaf _ n => exact absurd rfl (n ds)
        · cases e
      · cases e
    | _ => cases e
/-- what is asked of a term's data -/
def fineD (d : PyData) : Prop := (∀ x, d = .str x → x.length ≤ sizeLine) ∧ FewD d
/-- _sort_at, depth 13 - j -/
def spSortAt (K : PySem.W.Frag) (C cT : Addr) (j : Nat) : Sp := fun vs H Q E => ∃ (u a q : Addr) (v : V) (n c dep : Int) (l : NmL) (d : PyData) (at_ : List Int), vs = [.ref u, .ref a, v, .ref q, .int dep] ∧ LookAt H u C n c ∧ dep + j = 13 ∧ NmD K H a l ∧ NmlOk l ∧ l.length + j ≤ 90 ∧
  Dp K H v d ∧ Deep fineD d ∧ SqT K H q (at_.map V.int) ∧ at_.length + 2 * j ≤ 500 ∧
  (∀ g c' H', sortM n j l d at_ c = .ok (g, c') → Ext H H' u → LookAt H' u C n c' → Q (.str g) H') ∧
  (∀ p H' q' x, sortM n j l d at_ c = .error p → Ext H H' u → SqT K H' q' (p.map V.int) → H' x = none → E (.ref cT) (some x) (upd H' x (.xd [(("at" : Str), .ref q')])))
def spPrev (K : PySem.W.Frag) (C cT : Addr) : Nat → Sp
  | 0 => spNever
  | j + 1 => spSortAt K C cT j
/-- an item of a tuple or a list -/
def rIxS (K : PySem.W.Frag) : R2 := fun x y H Q => rIxT K x y H Q ∨ ∃ p xs i v, x = .ref p ∧ y = .int i ∧ H p = some (.lst xs) ∧ atI xs i = some v ∧ Q v H
end Jd
namespace Jd
open PySem PySem.Spec PyProof.Rows L2 RZ
theorem lk_size {n c : Int} : (lookFs n c).lookup ("size" : Str) = some (.int n) := by
  simp [lookFs, List.lookup]
theorem lk_nodes {n c : Int} : (lookFs n c).lookup ("nodes" : Str) = some (.int c) := by
  have e : (("nodes" : Str) == "size") = false := by decide +kernel
  simp [lookFs, List.lookup, e]
theorem put_nodes {n c c' : Int} : putF "nodes" (.int c') (lookFs n c) = lookFs n c' := by
  have e : ¬ (("size" : Str) = "nodes") := by decide +kernel
  simp [putF, lookFs, e]
section
variable {P : Program} {w : World} {K : PySem.W.Frag} {mg : Str → Option Value} {base : Heap} {H : Hp} {cT fT C : Addr}
/-- two tuples put together, the second one not empty -/
theorem cat_key {q pa : Addr} {at_ p : List Int} {Q : VK} (h1 : SqT K H q (at_.map V.int)) (h2 : SqT K H pa (p.map V.int)) (hl : at_.length + p.length ≤ 1000) (np : p ≠ []) (k : ∀ r H', Same H H' → SqT K H' r ((at_ ++ p).map V.int) → Q (.ref r) H') : rCatA K (.ref q) (.ref pa) H Q := by
  refine ⟨q, pa, _, _, rfl, rfl, h1, h2, ?_, fun e => ?_, fun _ e => ?_, fun _ _ r nr => ?_⟩
  · rw [List.length_map, List.length_map]
    exact Nat.le_of_lt (small1000 hl)
  · have z : at_ = [] := List.map_eq_nil_iff.mp e
    subst z
    exact k pa H (Same.refl _) h2
  · exact absurd (List.map_eq_nil_iff.mp e) np
  · have s : Same H (upd H r (.tup (at_.map V.int ++ p.map V.int))) := fun b o e => (upd_ne (ne_of_none e nr)).trans e
    exact k r _ s (by rw [List.map_append]; exact SqT.of upd_same)
/-- what is wanted of the i-th part -/
theorem want_ix {l : NmL} {ds : List PyData} {b : Addr} {i : Nat} {wd : Str} {Q : VK} (h : WantAt K H l ds b) (ok : NmlOk l) (e : (wantedD l ds)[i]? = some wd) (k : Q (.str wd) H) : rIx K (.ref b) (.int (i : Nat)) H Q := by
  cases h with
  | @name y r ts g _ zs el hb hs =>
    obtain ⟨ss, es, _⟩ := ok.2 (y, (ts, g)) (PySem.mem_of_lookup el)
    have es' : ts = ss.map PyData.str := es
    have ew : wantedD l (.str "name" :: .str y :: r) = ss := by
      simp only [wantedD, if_true, el]
      rw [es', strs_back]
    rw [ew] at e
    have lt := (List.getElem?_eq_some_iff.mp e).1
    have lz : i < zs.length := by
      rw [dps_len hs, es', List.length_map]
      exact lt
    obtain ⟨d, e1, hd⟩ := dps_get hs (List.getElem?_eq_getElem lz)
    rw [es', List.getElem?_map, e] at e1
    cases e1
    have zv : zs[i] = .str wd := by
      generalize zs[i] = v at hd
      cases hd
      rfl
    exact .inr (.inl ⟨b, zs, (i : Int), .str wd, rfl, rfl, hb, atI_nat (by rw [List.getElem?_eq_getElem lz, zv]), k⟩)
  | @word x r ws _ n ef hb =>
    rw [wanted_word n ef] at e
    exact .inl ⟨b, _, (i : Int), .str wd, rfl, rfl, SqL.of hb, atI_nat (by rw [List.getElem?_map, e]; rfl), k⟩
theorem strs_eq {zs : List V} {ss : List Str} (h : DpAll K H zs (ss.map PyData.str)) : zs = ss.map V.str := by
  induction ss generalizing zs with
  | nil => cases h; rfl
  | cons s ss ih =>
    cases h with
    | cons a b =>
      cases a
      rw [ih b]
      rfl
/-- the words that are wanted stand at b, in a tuple or in another list than so -/
def WantR (K : PySem.W.Frag) (H : Hp) (b so : Addr) (ws : List Str) : Prop := SqT K H b (ws.map V.str) ∨ (b ≠ so ∧ H b = some (.lst (ws.map V.str)))
theorem WantAt.r {l : NmL} {ds : List PyData} {b so : Addr} (h : WantAt K H l ds b) (ok : NmlOk l) (n : H so = none) : WantR K H b so (wantedD l ds) := by
  cases h with
  | @name y r ts g _ zs el hb hs =>
    obtain ⟨ss, es, _⟩ := ok.2 (y, (ts, g)) (PySem.mem_of_lookup el)
    have es' : ts = ss.map PyData.str := es
    have ew : wantedD l (.str "name" :: .str y :: r) = ss := by
      simp only [wantedD, if_true, el]
      rw [es', strs_back]
    rw [es'] at hs
    rw [strs_eq hs] at hb
    rw [ew]
    exact .inl hb
  | @word x r ws _ nn ef hb =>
    rw [wanted_word nn ef]
    exact .inr ⟨ne_of_none hb n, hb⟩
theorem WantR.same {H' : Hp} {b so : Addr} {ws : List Str} (h : WantR K H b so ws) (s : Same H H') : WantR K H' b so ws := by
  rcases h with h | ⟨n, h⟩
  · exact .inl (sqT_same s h)
  · exact .inr ⟨n, s _ _ h⟩
theorem WantR.ext {H' : Hp} {u b so dx : Addr} {fs : List (Str × V)} {ws : List Str} (h : WantR K H b so ws) (s : Ext H H' u) (e : H u = some (.ins C dx fs)) : WantR K H' b so ws := by
  rcases h with h | ⟨n, h⟩
  · exact .inl (s.sqT e h)
  · exact .inr ⟨n, s _ _ (ne_of h e (by intro z; cases z)) h⟩
theorem WantR.write {b so : Addr} {xs : List V} {o : HO} {ws : List Str} (h : WantR K H b so ws) (e : H so = some (.lst xs)) : WantR K (upd H so o) b so ws := by
  rcases h with h | ⟨n, h⟩
  · refine .inl ?_
    rcases h with (q | ⟨o, q⟩) | q
    · exact .inl (.inl (by rw [upd_ne (ne_of q e (by intro z; cases z))]; exact q))
    · by_cases bs : b = so
      · subst bs
        rw [e] at q
        cases q
      · exact .inl (.inr ⟨o, by rw [upd_ne bs]; exact q⟩)
    · exact .inr q
  · exact .inr ⟨n, (upd_ne n).trans h⟩
theorem WantR.ix {b so : Addr} {ws : List Str} {i : Nat} {wd : Str} {Q : VK} (h : WantR K H b so ws) (e : ws[i]? = some wd) (k : Q (.str wd) H) : rIx K (.ref b) (.int (i : Nat)) H Q := by
  have ea : (ws.map V.str)[i]? = some (.str wd) := by rw [List.getElem?_map, e]; rfl
  rcases h with h | ⟨_, h⟩
  · exact .inr (.inl ⟨b, _, (i : Int), .str wd, rfl, rfl, h, atI_nat ea, k⟩)
  · exact .inl ⟨b, _, (i : Int), .str wd, rfl, rfl, SqL.of h, atI_nat ea, k⟩
theorem sortM_tup {n : Int} {j : Nat} {l : NmL} {ds : List PyData} {at_ : List Int} {c : Int} {ps : List (List Int)} (c60 : ¬ (60 : Int) < c + 1) (hf : formD n l (.tuple ds) = true) (hp : pathsD ds = some ps) :
    sortM n (j + 1) l (.tuple ds) at_ c = (match goM (sortM n j) l ds at_ (wantedD l ds) ps 0 [] (c + 1) with
      | .error e => .error e
      | .ok (sorts, c') => match givenD l sorts ds with
        | some g => .ok (g, c')
        | none => .error at_) := by
  have hf' : ¬ formD n l (.tuple ds) = false := by rw [hf]; simp
  unfold sortM
  rw [if_neg c60, if_neg hf']
  dsimp only
  rw [hp]
  rfl
theorem sortM_ok {n : Int} {j : Nat} {l : NmL} {ds : List PyData} {at_ : List Int} {c c' : Int} {ps : List (List Int)} {sorts : List Str} {g : Str} (c60 : ¬ (60 : Int) < c + 1) (hf : formD n l (.tuple ds) = true) (hp : pathsD ds = some ps)
    (go : goM (sortM n j) l ds at_ (wantedD l ds) ps 0 [] (c + 1) = .ok (sorts, c')) (hg : givenD l sorts ds = some g) : sortM n (j + 1) l (.tuple ds) at_ c = .ok (g, c') := by
  rw [sortM_tup c60 hf hp, go]
  dsimp only
  rw [hg]
theorem sortM_err {n : Int} {j : Nat} {l : NmL} {ds : List PyData} {at_ e : List Int} {c : Int} {ps : List (List Int)} (c60 : ¬ (60 : Int) < c + 1) (hf : formD n l (.tuple ds) = true) (hp : pathsD ds = some ps)
    (go : goM (sortM n j) l ds at_ (wantedD l ds) ps 0 [] (c + 1) = .error e) : sortM n (j + 1) l (.tuple ds) at_ c = .error e := by
  rw [sortM_tup c60 hf hp, go]
end
end Jd
/-! Terms that have a sort, told by data: with how many nodes, and how deep at most. -/
namespace Jd
open PySem PySem.Spec PyProof.Rows L2 RZ
/-- over these names d is a term of sort g, of k nodes, at most h deep -/
inductive Typ (n : Int) : NmL → PyData → Str → Nat → Nat → Prop
  | mk {l : NmL} {ds : List PyData} {ps : List (List Int)} {g : Str} {h : Nat} {qs : List PyData} {ss : List Str} {ks : List Nat} (form : formD n l (.tuple ds) = true) (paths : pathsD ds = some ps) (given : givenD l ss ds = some g)
      (lq : qs.length = ps.length) (ls : ss.length = ps.length) (lk : ks.length = ps.length) (along : ∀ (i : Nat) (p : List Int) (q : PyData), ps[i]? = some p → qs[i]? = some q → alongD (.tuple ds) p = some q)
      (want : ∀ (i : Nat) (s : Str), ss[i]? = some s → isWantedD s ((wantedD l ds).getD i "") (ss.take i) = true)
      (parts : ∀ (i : Nat) (q : PyData) (s : Str) (k : Nat), qs[i]? = some q → ss[i]? = some s → ks[i]? = some k → Typ n (innerD l ds (i : Nat)) q s k h) : Typ n l (.tuple ds) g (1 + ks.sum) (h + 1)
theorem Typ.pos {n : Int} {l : NmL} {d : PyData} {g : Str} {k h : Nat} (t : Typ n l d g k h) : 1 ≤ k ∧ 1 ≤ h := by
  cases t
  exact ⟨by omega, by omega⟩
theorem Typ.mono {n : Int} {l : NmL} {d : PyData} {g : Str} {k h h' : Nat} (t : Typ n l d g k h) (e : h ≤ h') : Typ n l d g k h' := by
  induction t generalizing h' with
  | mk form paths given lq ls lk along want parts ih =>
    cases h' with
    | zero => omega
    | succ h' => exact .mk form paths given lq ls lk along want fun i q s k a b c => ih i q s k a b c (by omega)
theorem goM_all {l : NmL} {ds qs : List PyData} {ps : List (List Int)} {ss : List Str} {ks : List Nat} {rec_ : NmL → PyData → List Int → Int → Told} {at_ : List Int} (lq : qs.length = ps.length) (ls : ss.length = ps.length) (lk : ks.length = ps.length)
    (along : ∀ (i : Nat) (p : List Int) (q : PyData), ps[i]? = some p → qs[i]? = some q → alongD (.tuple ds) p = some q)
    (want : ∀ (i : Nat) (s : Str), ss[i]? = some s → isWantedD s ((wantedD l ds).getD i "") (ss.take i) = true)
    (hrec : ∀ (i : Nat) (q : PyData) (s : Str) (k : Nat), qs[i]? = some q → ss[i]? = some s → ks[i]? = some k → ∀ (at2 : List Int) (c : Int), c + (k : Nat) ≤ 60 → rec_ (innerD l ds (i : Nat)) q at2 c = .ok (s, c + (k : Nat))) :
    ∀ (m i : Nat), ps.length = i + m → ∀ c : Int, c + ((ks.drop i).sum : Nat) ≤ 60 → goM rec_ l ds at_ (wantedD l ds) (ps.drop i) i (ss.take i) c = .ok (ss, c + ((ks.drop i).sum : Nat))
  | 0, i, e, c, _ => by
    rw [List.drop_eq_nil_of_le (by omega), List.drop_eq_nil_of_le (by omega), List.take_of_length_le (by omega)]
    simp [goM]
  | m + 1, i, e, c, hc => by
    have hp := List.getElem?_eq_getElem (show i < ps.length by omega)
    have hq := List.getElem?_eq_getElem (show i < qs.length by omega)
    have hs := List.getElem?_eq_getElem (show i < ss.length by omega)
    have hk := List.getElem?_eq_getElem (show i < ks.length by omega)
    have sk : (ks.drop i).sum = ks[i] + (ks.drop (i + 1)).sum := by
      rw [List.drop_eq_getElem_cons (by omega)]
      rfl
    rw [List.drop_eq_getElem_cons (show i < ps.length by omega)]
    rw [sk] at hc ⊢
    unfold goM
    rw [along i _ _ hp hq]
    dsimp only
    rw [hrec i _ _ _ hq hs hk _ c (by omega)]
    dsimp only
    rw [want i _ hs, if_pos rfl]
    have tk : ss.take i ++ [ss[i]] = ss.take (i + 1) := by rw [List.take_add_one, hs]; rfl
    rw [tk, goM_all lq ls lk along want hrec m (i + 1) (by omega) (c + (ks[i] : Nat)) (by omega)]
    rw [show c + (ks[i] : Nat) + ((ks.drop (i + 1)).sum : Nat) = c + ((ks[i] + (ks.drop (i + 1)).sum : Nat) : Int) by omega]
/-- it has its sort -/
theorem Typ.sort {n : Int} {l : NmL} {d : PyData} {g : Str} {k h : Nat} (t : Typ n l d g k h) : ∀ (j : Nat) (at_ : List Int) (c : Int), h ≤ j → c + (k : Nat) ≤ 60 → sortM n j l d at_ c = .ok (g, c + (k : Nat)) := by
  induction t with
  | @mk l ds ps g h qs ss ks form paths given lq ls lk along want parts ih =>
    intro j at_ c hj hc
    cases j with
    | zero => omega
    | succ j =>
      have go := goM_all (at_ := at_) (rec_ := sortM n j) lq ls lk along want (fun i q s k a b c' at2 c2 h2 => ih i q s k a b c' j at2 c2 (by omega) h2) ps.length 0 (by omega) (c + 1) (by rw [List.drop_zero]; omega)
      rw [List.drop_zero, List.drop_zero, List.take_zero] at go
      unfold sortM
      rw [if_neg (by omega), if_neg (by rw [form]; simp)]
      dsimp only
      rw [paths]
      show (match goM (sortM n j) l ds at_ (wantedD l ds) ps 0 [] (c + 1) with | .error e => Except.error e | .ok (sorts, c') => match givenD l sorts ds with | some g => .ok (g, c') | none => .error at_) = _
      rw [go]
      dsimp only
      rw [given]
      dsimp only
      rw [show c + 1 + (ks.sum : Nat) = c + ((1 + ks.sum : Nat) : Int) by omega]
/-- a part that is a term, not a figure or a word -/
theorem thing_term {n : Int} {wd : Str} (h : isTermB wd = true) (d : PyData) : thingD n wd d = true := by
  have e1 : wd ≠ "figure" := fun z => by subst z; exact absurd h (by decide +kernel)
  have e2 : wd ≠ "word" := fun z => by subst z; exact absurd h (by decide +kernel)
  have e3 : wd ≠ "ending" := fun z => by subst z; exact absurd h (by decide +kernel)
  unfold thingD
  rw [if_neg e1, if_neg e2, if_neg e3]
theorem form_word {n : Int} {l : NmL} {x : Str} {r : List PyData} {ws : List Str} (e : x ≠ "name") (f : forms.lookup x = some ws) (hl : r.length = ws.length) (h : ∀ (i : Nat) (wd : Str) (t : PyData), ws[i]? = some wd → r[i]? = some t → thingD n wd t = true) : formD n l (.tuple (.str x :: r)) = true := by
  simp only [formD]
  rw [if_neg e, f]
  simp only [Bool.and_eq_true, beq_iff_eq, List.all_eq_true]
  refine ⟨hl, fun p hp => ?_⟩
  obtain ⟨i, hi⟩ := List.getElem?_of_mem hp
  obtain ⟨h1, h2⟩ := List.getElem?_zip_eq_some.mp hi
  exact h i p.1 p.2 h1 h2
/-- a word with parts that are terms alone -/
theorem Typ.flat {n : Int} {l : NmL} {x g : Str} {ws : List Str} {is : List Int} {h : Nat} {qs : List PyData} {ss : List Str} {ks : List Nat} (e : x ≠ "name") (e1 : x ≠ "new") (e2 : x ≠ "made") (f : forms.lookup x = some ws) (al : ws.all isTermB = true) (pt : partsT.lookup x = some is)
    (hi : is = (List.range ws.length).map fun i => ((i + 1 : Nat) : Int)) (lq : qs.length = ws.length) (ls : ss.length = ws.length) (lk : ks.length = ws.length) (given : givenD l ss (.str x :: qs) = some g)
    (want : ∀ (i : Nat) (s : Str), ss[i]? = some s → isWantedD s (ws.getD i "") (ss.take i) = true) (parts : ∀ (i : Nat) (q : PyData) (s : Str) (k : Nat), qs[i]? = some q → ss[i]? = some s → ks[i]? = some k → Typ n l q s k h) : Typ n l (.tuple (.str x :: qs)) g (1 + ks.sum) (h + 1) := by
  have al' : ∀ wd ∈ ws, isTermB wd = true := List.all_eq_true.mp al
  have lis : is.length = ws.length := by rw [hi]; simp
  have wd : wantedD l (.str x :: qs) = ws := by
    rw [wanted_word e f]
    exact List.filter_eq_self.mpr al'
  have inn : ∀ i : Int, innerD l (.str x :: qs) i = l := fun i => by
    have z : givesD (.str x :: qs) i = none := by
      simp only [givesD]
      rw [if_neg e1, if_neg (fun z => e2 z.1)]
    unfold innerD
    rw [z]
  refine .mk (ps := is.map fun i => [i]) (qs := qs) (ss := ss) (ks := ks) (form_word e f lq fun i wd t h1 _ => thing_term (al' _ (List.mem_of_getElem? h1)) t) ?_ given ?_ ?_ ?_ (fun i p q h1 h2 => ?_) (fun i s hs => ?_) fun i q s k a b c => ?_
  · simp only [pathsD]
    rw [if_neg e, pt]
    rfl
  · rw [List.length_map, lis, lq]
  · rw [List.length_map, lis, ls]
  · rw [List.length_map, lis, lk]
  · rw [hi] at h1
    simp only [List.map_map, List.getElem?_map] at h1
    cases er : (List.range ws.length)[i]? with
    | none => rw [er] at h1; cases h1
    | some j =>
      rw [er] at h1
      obtain ⟨hj, rfl⟩ := List.getElem?_eq_some_iff.mp er
      rw [List.getElem_range] at h1
      cases h1
      have z := along_nat (ds := .str x :: qs) (j := i + 1) (d := q) (by rw [List.getElem?_cons_succ]; exact h2) []
      refine z.trans ?_
      cases q <;> rfl
  · rw [wd]
    exact want i s hs
  · rw [inn]
    exact parts i q s k a b c
end Jd
/-! Terms of each form that have a sort. -/
namespace Jd
open PySem PySem.Spec PyProof.Rows L2 RZ
section
variable {n : Int} {l : NmL} {h : Nat}
def PartsOk (n : Int) (l : NmL) (h : Nat) (qs : List PyData) (ss : List Str) (ks : List Nat) : Prop := ∀ (i : Nat) (q : PyData) (s : Str) (k : Nat), qs[i]? = some q → ss[i]? = some s → ks[i]? = some k → Typ n l q s k h
theorem parts_nil {ss : List Str} {ks : List Nat} : PartsOk n l h [] ss ks := fun i q s k a => by simp at a
theorem parts_cons {q : PyData} {s : Str} {k : Nat} {qs : List PyData} {ss : List Str} {ks : List Nat} (t : Typ n l q s k h) (r : PartsOk n l h qs ss ks) : PartsOk n l h (q :: qs) (s :: ss) (k :: ks) := fun i q' s' k' a b c => by
  cases i with
  | zero =>
    cases a
    cases b
    cases c
    exact t
  | succ i => exact r i q' s' k' a b c
/-- all that is wanted stands there -/
def wantAll : List Str → List Str → List Str → Bool
  | _, [], [] => true
  | ahead, s :: ss, w :: ws => isWantedD s w ahead && wantAll (ahead ++ [s]) ss ws
  | _, _, _ => false
theorem wantAll_at {ss ws : List Str} : ∀ {ahead : List Str}, wantAll ahead ss ws = true → ∀ (i : Nat) (s : Str), ss[i]? = some s → isWantedD s (ws.getD i "") (ahead ++ ss.take i) = true := by
  induction ss generalizing ws with
  | nil =>
    intro ahead h i s e
    simp at e
  | cons s0 ss ih =>
    intro ahead h i s e
    cases ws with
    | nil => cases h
    | cons w ws =>
      obtain ⟨h1, h2⟩ := (Bool.and_eq_true _ _).mp h
      cases i with
      | zero =>
        cases e
        rw [List.take_zero, List.append_nil]
        exact h1
      | succ i =>
        have z := ih h2 i s e
        rw [List.append_assoc] at z
        exact z
theorem wantAll_len {ss ws : List Str} : ∀ {ahead : List Str}, wantAll ahead ss ws = true → ss.length = ws.length := by
  induction ss generalizing ws with
  | nil =>
    intro ahead h
    cases ws with
    | nil => rfl
    | cons _ _ => cases h
  | cons s ss ih =>
    intro ahead h
    cases ws with
    | nil => cases h
    | cons w ws =>
      obtain ⟨_, h2⟩ := (Bool.and_eq_true _ _).mp h
      rw [List.length_cons, List.length_cons, ih h2]
theorem given_word {x g : Str} {ss : List Str} {r : List PyData} (e : x ≠ "name") (e2 : x ≠ "never") (hg : givens.lookup x = some g) : givenD l ss (.str x :: r) = some g := by
  simp only [givenD]
  rw [if_neg e, if_neg e2, hg]
theorem given_last {x : Str} {ss : List Str} {r : List PyData} (e : x ≠ "name") (e2 : x ≠ "never") (hg : givens.lookup x = none) : givenD l ss (.str x :: r) = ss.getLast? := by
  simp only [givenD]
  rw [if_neg e, if_neg e2, hg]
/-- a word of the table whose parts are terms alone, in the form that is asked of the table -/
def flatB (x : Str) (ws : List Str) : Bool := decide (x ≠ "name") && decide (x ≠ "new") && decide (x ≠ "made") && decide (x ≠ "never") && decide (forms.lookup x = some ws) && ws.all isTermB && decide (partsT.lookup x = some ((List.range ws.length).map fun i => ((i + 1 : Nat) : Int)))
theorem Typ.flatW {x g : Str} {ws : List Str} {qs : List PyData} {ss : List Str} {ks : List Nat} (b : flatB x ws = true) (lq : qs.length = ws.length) (lk : ks.length = ws.length) (wa : wantAll [] ss ws = true) (given : (match givens.lookup x with | some g => some g | none => ss.getLast?) = some g) (parts : PartsOk n l h qs ss ks) :
    Typ n l (.tuple (.str x :: qs)) g (1 + ks.sum) (h + 1) := by
  simp only [flatB, Bool.and_eq_true, decide_eq_true_eq] at b
  obtain ⟨⟨⟨⟨⟨⟨b1, b2⟩, b3⟩, b4⟩, b5⟩, b6⟩, b7⟩ := b
  refine .flat b1 b2 b3 b5 b6 b7 rfl lq (wantAll_len wa) lk ?_ (fun i s e => by have z := wantAll_at wa i s e; rw [List.nil_append] at z; exact z) parts
  simp only [givenD]
  rw [if_neg b1, if_neg b4]
  exact given
def endB (s : Str) : Bool := decide (s = "num") || decide (s = "do")
theorem some_ok {s : Str} (hs : endB s = true) {ahead : List Str} : isWantedD s "some" ahead = true := by
  simp only [endB, Bool.or_eq_true, decide_eq_true_eq] at hs
  rcases hs with rfl | rfl
  · unfold isWantedD
    rw [if_pos rfl]
    decide +kernel
  · unfold isWantedD
    rw [if_pos rfl]
    decide +kernel
theorem Typ.one {x g wd : Str} {q : PyData} {k : Nat} (b : flatB x [wd] = true) (wa : wantAll [] [wd] [wd] = true) (hg : givens.lookup x = some g) (t : Typ n l q wd k h) : Typ n l (.tuple [.str x, q]) g (1 + k) (h + 1) :=
  Typ.flatW (qs := [q]) (ss := [wd]) (ks := [k]) (ws := [wd]) b rfl rfl wa (by rw [hg]) (parts_cons t parts_nil)
theorem Typ.two {x g w1 w2 : Str} {q1 q2 : PyData} {k1 k2 : Nat} (b : flatB x [w1, w2] = true) (wa : wantAll [] [w1, w2] [w1, w2] = true) (hg : givens.lookup x = some g) (t1 : Typ n l q1 w1 k1 h) (t2 : Typ n l q2 w2 k2 h) : Typ n l (.tuple [.str x, q1, q2]) g (1 + (k1 + k2)) (h + 1) :=
  Typ.flatW (qs := [q1, q2]) (ss := [w1, w2]) (ks := [k1, k2]) (ws := [w1, w2]) b rfl rfl wa (by rw [hg]) (parts_cons t1 (parts_cons t2 parts_nil))
theorem Typ.not {q : PyData} {k : Nat} (t : Typ n l q "num" k h) : Typ n l (.tuple [.str "not", q]) "num" (1 + k) (h + 1) := Typ.one (by decide +kernel) (by decide +kernel) (by decide +kernel) t
theorem Typ.get {q : PyData} {k : Nat} (t : Typ n l q "box" k h) : Typ n l (.tuple [.str "get", q]) "num" (1 + k) (h + 1) := Typ.one (by decide +kernel) (by decide +kernel) (by decide +kernel) t
theorem Typ.claim {q : PyData} {k : Nat} (t : Typ n l q "num" k h) : Typ n l (.tuple [.str "claim", q]) "do" (1 + k) (h + 1) := Typ.one (by decide +kernel) (by decide +kernel) (by decide +kernel) t
theorem Typ.while {q1 q2 : PyData} {k1 k2 : Nat} (t1 : Typ n l q1 "num" k1 h) (t2 : Typ n l q2 "do" k2 h) : Typ n l (.tuple [.str "while", q1, q2]) "do" (1 + (k1 + k2)) (h + 1) := Typ.two (by decide +kernel) (by decide +kernel) (by decide +kernel) t1 t2
theorem Typ.set {q1 q2 : PyData} {k1 k2 : Nat} (t1 : Typ n l q1 "box" k1 h) (t2 : Typ n l q2 "num" k2 h) : Typ n l (.tuple [.str "set", q1, q2]) "do" (1 + (k1 + k2)) (h + 1) := Typ.two (by decide +kernel) (by decide +kernel) (by decide +kernel) t1 t2
def opB (x : Str) : Bool := decide (x = "sum") || decide (x = "less") || decide (x = "same") || decide (x = "below")
theorem Typ.op {x : Str} {q1 q2 : PyData} {k1 k2 : Nat} (hx : opB x = true) (t1 : Typ n l q1 "num" k1 h) (t2 : Typ n l q2 "num" k2 h) : Typ n l (.tuple [.str x, q1, q2]) "num" (1 + (k1 + k2)) (h + 1) := by
  simp only [opB, Bool.or_eq_true, decide_eq_true_eq] at hx
  rcases hx with ((rfl | rfl) | rfl) | rfl
  · exact Typ.two (by decide +kernel) (by decide +kernel) (by decide +kernel) t1 t2
  · exact Typ.two (by decide +kernel) (by decide +kernel) (by decide +kernel) t1 t2
  · exact Typ.two (by decide +kernel) (by decide +kernel) (by decide +kernel) t1 t2
  · exact Typ.two (by decide +kernel) (by decide +kernel) (by decide +kernel) t1 t2
theorem Typ.then {s : Str} {q1 q2 : PyData} {k1 k2 : Nat} (hs : endB s = true) (t1 : Typ n l q1 "do" k1 h) (t2 : Typ n l q2 s k2 h) : Typ n l (.tuple [.str "then", q1, q2]) s (1 + (k1 + k2)) (h + 1) := by
  refine Typ.flatW (qs := [q1, q2]) (ss := ["do", s]) (ks := [k1, k2]) (ws := ["do", "some"]) (by decide +kernel) rfl rfl ?_ ?_ (parts_cons t1 (parts_cons t2 parts_nil))
  · simp only [wantAll, Bool.and_true]
    rw [some_ok hs, Bool.and_true]
    decide +kernel
  · rw [show givens.lookup ("then" : Str) = none by decide +kernel]
    rfl
theorem Typ.if {s : Str} {q1 q2 q3 : PyData} {k1 k2 k3 : Nat} (hs : endB s = true) (t1 : Typ n l q1 "num" k1 h) (t2 : Typ n l q2 s k2 h) (t3 : Typ n l q3 s k3 h) : Typ n l (.tuple [.str "if", q1, q2, q3]) s (1 + (k1 + (k2 + k3))) (h + 1) := by
  refine Typ.flatW (qs := [q1, q2, q3]) (ss := ["num", s, s]) (ks := [k1, k2, k3]) (ws := ["num", "some", "alike"]) (by decide +kernel) rfl rfl ?_ ?_ (parts_cons t1 (parts_cons t2 (parts_cons t3 parts_nil)))
  · simp only [wantAll, Bool.and_true]
    rw [some_ok hs, Bool.true_and]
    have z : isWantedD s "alike" ([] ++ [("num" : Str)] ++ [s]) = true := by
      unfold isWantedD
      rw [if_neg (by decide +kernel), if_pos rfl]
      simp
    rw [z, Bool.and_true]
    decide +kernel
  · rw [show givens.lookup ("if" : Str) = none by decide +kernel]
    rfl
theorem Typ.number {m : Int} (h0 : 0 ≤ m) (h1 : m ≤ n - 1) : Typ n l (.tuple [.str "number", .int m]) "num" 1 (h + 1) := by
  refine .mk (ps := []) (qs := []) (ss := []) (ks := []) (form_word (ws := ["figure"]) (by decide +kernel) (by decide +kernel) rfl fun i wd t a b => ?_) ?_ (given_word (by decide +kernel) (by decide +kernel) (by decide +kernel)) rfl rfl rfl (fun i p q a => by simp at a) (fun i s a => by simp at a) fun i q s k a => by simp at a
  · cases i with
    | zero =>
      cases a
      cases b
      unfold thingD
      rw [if_pos rfl]
      simp only [withinD, Bool.and_eq_true, decide_eq_true_eq]
      exact ⟨h0, h1⟩
    | succ i => simp at a
  · simp only [pathsD]
    rw [if_neg (by decide +kernel), show partsT.lookup ("number" : Str) = some [] by decide +kernel]
    rfl
theorem Typ.skip : Typ n l (.tuple [.str "skip"]) "do" 1 (h + 1) := by
  refine .mk (ps := []) (qs := []) (ss := []) (ks := []) (form_word (ws := []) (by decide +kernel) (by decide +kernel) rfl fun i wd t a b => by simp at a) ?_ (given_word (by decide +kernel) (by decide +kernel) (by decide +kernel)) rfl rfl rfl (fun i p q a => by simp at a) (fun i s a => by simp at a) fun i q s k a => by simp at a
  simp only [pathsD]
  rw [if_neg (by decide +kernel), show partsT.lookup ("skip" : Str) = some [] by decide +kernel]
  rfl
theorem Typ.never {s : Str} (hs : endB s = true) : Typ n l (.tuple [.str "never", .str s]) s 1 (h + 1) := by
  refine .mk (ps := []) (qs := []) (ss := []) (ks := []) (form_word (ws := ["ending"]) (by decide +kernel) (by decide +kernel) rfl fun i wd t a b => ?_) ?_ ?_ rfl rfl rfl (fun i p q a => by simp at a) (fun i s a => by simp at a) fun i q s k a => by simp at a
  · cases i with
    | zero =>
      cases a
      cases b
      unfold thingD
      rw [if_neg (by decide +kernel), if_neg (by decide +kernel), if_pos rfl]
      simp only [endB, Bool.or_eq_true, decide_eq_true_eq] at hs
      rcases hs with rfl | rfl
      · decide +kernel
      · decide +kernel
    | succ i => simp at a
  · simp only [pathsD]
    rw [if_neg (by decide +kernel), show partsT.lookup ("never" : Str) = some [] by decide +kernel]
    rfl
  · simp only [givenD]
    rw [if_neg (by decide +kernel), if_pos trivial]
/-- a name with what it takes -/
theorem Typ.name {y g : Str} {ss : List Str} {qs : List PyData} {ks : List Nat} (hw : wordD (.str y) = true) (hl : l.lookup y = some (ss.map PyData.str, g)) (plain : ∀ s ∈ ss, plainD (.str s) = true) (lq : qs.length = ss.length) (lk : ks.length = ss.length) (parts : PartsOk n l h qs ss ks) :
    Typ n l (.tuple [.str "name", .str y, .tuple qs]) g (1 + ks.sum) (h + 1) := by
  have wd : wantedD l [.str "name", .str y, .tuple qs] = ss := by
    simp only [wantedD, if_true, hl]
    rw [strs_back]
  have inn : ∀ i : Int, innerD l [.str "name", .str y, .tuple qs] i = l := fun i => by
    have z : givesD [.str "name", .str y, .tuple qs] i = none := by
      simp only [givesD]
      rw [if_neg (by decide +kernel), if_neg (fun z => absurd z.1 (by decide +kernel))]
    unfold innerD
    rw [z]
  refine .mk (ps := (List.range qs.length).map fun i => [2, ((i : Nat) : Int)]) (qs := qs) (ss := ss) (ks := ks) ?_ (by simp [pathsD]) ?_ ?_ ?_ ?_ (fun i p q h1 h2 => ?_) (fun i s hs => ?_) fun i q s k a b c => ?_
  · simp only [formD, if_true, useD, hw, hl, Bool.true_and]
    rw [List.length_map, lq]
    simp
  · simp only [givenD, if_true, hl]
    rfl
  · rw [List.length_map, List.length_range]
  · rw [List.length_map, List.length_range, lq]
  · rw [List.length_map, List.length_range, lq, lk]
  · rw [List.getElem?_map] at h1
    cases er : (List.range qs.length)[i]? with
    | none => rw [er] at h1; cases h1
    | some j =>
      rw [er] at h1
      obtain ⟨hj, rfl⟩ := List.getElem?_eq_some_iff.mp er
      rw [List.getElem_range] at h1
      cases h1
      have s1 := along_nat (ds := [.str "name", .str y, .tuple qs]) (j := 2) (d := .tuple qs) rfl [((i : Nat) : Int)]
      have s2 := along_nat (ds := qs) (j := i) h2 []
      refine s1.trans (s2.trans ?_)
      cases q <;> rfl
  · rw [wd]
    have hi := (List.getElem?_eq_some_iff.mp hs).1
    rw [show ss.getD i "" = s by rw [List.getD_eq_getElem?_getD, hs]; rfl]
    have pl := plain s (List.mem_of_getElem? hs)
    have e1 : s ≠ "some" := fun z => by subst z; exact absurd pl (by decide +kernel)
    unfold isWantedD
    rw [if_neg e1, if_neg (plain_ne pl)]
    simp
  · rw [inn]
    exact parts i q s k a b c
/-- a new box -/
theorem Typ.new {y s : Str} {m : Int} {q : PyData} {k : Nat} (hw : wordD (.str y) = true) (h0 : 0 ≤ m) (h1 : m ≤ n - 1) (hs : endB s = true) (t : Typ n (putL l y ([], "box")) q s k h) : Typ n l (.tuple [.str "new", .str y, .int m, q]) s (1 + k) (h + 1) := by
  have f : forms.lookup ("new" : Str) = some (["word", "figure", "some"] : List Str) := by decide +kernel
  have wd : wantedD l [.str "new", .str y, .int m, q] = (["some"] : List Str) := by
    rw [wanted_word (by decide +kernel) f]
    decide +kernel
  have inn : innerD l [.str "new", .str y, .int m, q] 0 = putL l y ([], "box") := by
    unfold innerD
    rw [show givesD [.str "new", .str y, .int m, q] 0 = some y by simp [givesD], show inS [.str "new", .str y, .int m, q] = ([], ("box" : Str)) by simp [inS]]
  refine .mk (ps := [[3]]) (qs := [q]) (ss := [s]) (ks := [k]) (form_word (by decide +kernel) f rfl fun i w t a b => ?_) ?_ ?_ rfl rfl rfl (fun i p q' a b => ?_) (fun i s' a => ?_) fun i q' s' k' a b c => ?_
  · match i, a, b with
    | 0, a, b => cases a; cases b; rw [thing_word]; exact hw
    | 1, a, b =>
      cases a
      cases b
      unfold thingD
      rw [if_pos rfl]
      simp only [withinD, Bool.and_eq_true, decide_eq_true_eq]
      exact ⟨h0, h1⟩
    | 2, a, b => cases a; exact thing_term (by decide +kernel) _
    | i + 3, a, b => simp at a
  · simp only [pathsD]
    rw [if_neg (by decide +kernel), show partsT.lookup ("new" : Str) = some [3] by decide +kernel]
    rfl
  · rw [given_last (by decide +kernel) (by decide +kernel) (by decide +kernel)]
    rfl
  · cases i with
    | zero =>
      cases a
      cases b
      have z := along_nat (ds := [.str "new", .str y, .int m, q]) (j := 3) (d := q) rfl []
      refine z.trans ?_
      cases q <;> rfl
    | succ i => simp at a
  · cases i with
    | zero =>
      cases a
      rw [wd]
      exact some_ok hs
    | succ i => simp at a
  · cases i with
    | zero =>
      cases a
      cases b
      cases c
      exact inn ▸ t
    | succ i => simp at a
/-- a made box -/
theorem made_new : ¬ (("made" : Str) = "new") := by decide +kernel
theorem Typ.made {y : Str} {q1 q2 : PyData} {k1 k2 : Nat} (hw : wordD (.str y) = true) (t1 : Typ n l q1 "num" k1 h) (t2 : Typ n (putL l y ([], "num")) q2 "do" k2 h) : Typ n l (.tuple [.str "made", q1, .str y, q2]) "box" (1 + (k1 + k2)) (h + 1) := by
  have f : forms.lookup ("made" : Str) = some (["num", "word", "do"] : List Str) := by decide +kernel
  have wd : wantedD l [.str "made", q1, .str y, q2] = (["num", "do"] : List Str) := by
    rw [wanted_word (by decide +kernel) f]
    decide +kernel
  have inn0 : innerD l [.str "made", q1, .str y, q2] ((0 : Nat) : Int) = l := by
    unfold innerD
    rw [show givesD [.str "made", q1, .str y, q2] ((0 : Nat) : Int) = none by simp [givesD, made_new]]
  have inn1 : innerD l [.str "made", q1, .str y, q2] ((1 : Nat) : Int) = putL l y ([], "num") := by
    unfold innerD
    rw [show givesD [.str "made", q1, .str y, q2] ((1 : Nat) : Int) = some y by simp [givesD, made_new], show inS [.str "made", q1, .str y, q2] = ([], ("num" : Str)) by simp [inS, made_new]]
  refine .mk (ps := [[1], [3]]) (qs := [q1, q2]) (ss := ["num", "do"]) (ks := [k1, k2]) (form_word (by decide +kernel) f rfl fun i w t a b => ?_) ?_ (given_word (by decide +kernel) (by decide +kernel) (by decide +kernel)) rfl rfl rfl (fun i p q' a b => ?_) (fun i s' a => ?_) fun i q' s' k' a b c => ?_
  · match i, a, b with
    | 0, a, b => cases a; exact thing_term (by decide +kernel) _
    | 1, a, b => cases a; cases b; rw [thing_word]; exact hw
    | 2, a, b => cases a; exact thing_term (by decide +kernel) _
    | i + 3, a, b => simp at a
  · simp only [pathsD]
    rw [if_neg (by decide +kernel), show partsT.lookup ("made" : Str) = some [1, 3] by decide +kernel]
    rfl
  · match i, a, b with
    | 0, a, b =>
      cases a
      cases b
      refine (along_nat (ds := [.str "made", q1, .str y, q2]) (j := 1) (d := q1) rfl []).trans ?_
      cases q1 <;> rfl
    | 1, a, b =>
      cases a
      cases b
      refine (along_nat (ds := [.str "made", q1, .str y, q2]) (j := 3) (d := q2) rfl []).trans ?_
      cases q2 <;> rfl
    | i + 2, a, b => simp at a
  · rw [wd]
    match i, a with
    | 0, a => cases a; decide +kernel
    | 1, a => cases a; decide +kernel
    | i + 2, a => simp at a
  · match i, a, b, c with
    | 0, a, b, c => cases a; cases b; cases c; exact inn0.symm ▸ t1
    | 1, a, b, c => cases a; cases b; cases c; exact inn1.symm ▸ t2
    | i + 2, a, b, c => simp at a
end
end Jd
/-! _sort_at of terms.py, whole: its body. -/
namespace Jd
open PySem PySem.Spec PyProof.Rows L2 RZ
section
variable {P : Program} {w : World} {K : PySem.W.Frag} {mg : Str → Option Value} {base : Heap} {H : Hp} {aP dF dG dP cT fT C : Addr} {es eg ep : Array DictEntry} {nF nG nP : Nat}
/-- what _sort_at calls -/
structure SaTop (P : Program) (w : World) (K : PySem.W.Frag) (mg : Str → Option Value) (base : Heap) (fF fW fP fI fG fN fA : Addr) (dFm dW dPt dI dGv dN dA : FuncData) : Prop where
  GF : FnOk P w K mg base CX0 4 fF dFm ["size", "names", "term"] (spForm K)
  kF : PySem.W.keepIn K (.ref fF) = true
  bF : Binds K dFm ["size", "names", "term"] []
  mF : mg "_has_form" = some (.ref fF)
  GW : FnOk P w K mg base CX0 1 fW dW ["names", "term"] (spWantedSorts K)
  kW : PySem.W.keepIn K (.ref fW) = true
  bW : Binds K dW ["names", "term"] []
  mW : mg "_wanted_sorts" = some (.ref fW)
  GP : FnOk P w K mg base CX0 1 fP dPt ["term"] (spPaths K)
  kP : PySem.W.keepIn K (.ref fP) = true
  bP : Binds K dPt ["term"] []
  mP : mg "part_paths" = some (.ref fP)
  GI : FnOk P w K mg base CX0 1 fI dI ["sort", "wanted", "ahead"] (spIsWanted K)
  kI : PySem.W.keepIn K (.ref fI) = true
  bI : Binds K dI ["sort", "wanted", "ahead"] []
  mI : mg "_is_wanted" = some (.ref fI)
  GG : FnOk P w K mg base CX0 1 fG dGv ["names", "term", "sorts"] (spSortGiven K)
  kG : PySem.W.keepIn K (.ref fG) = true
  bG : Binds K dGv ["names", "term", "sorts"] []
  mG : mg "_sort_given" = some (.ref fG)
  GN : FnOk P w K mg base CX0 2 fN dN ["names", "term", "number"] (spNW K)
  kN : PySem.W.keepIn K (.ref fN) = true
  bN : Binds K dN ["names", "term", "number"] []
  mN : mg "names_within" = some (.ref fN)
  GA : FnOk P w K mg base CX0 1 fA dA ["term", "path"] (spPA K)
  kA : PySem.W.keepIn K (.ref fA) = true
  bA : Binds K dA ["term", "path"] []
  mA : mg "part_along" = some (.ref fA)
theorem nw_key {a t : Addr} {i : Nat} {l : NmL} {xs : List V} {ds : List PyData} {Qx : VK} {Ex : XK} (hn : NmD K H a l) (nd : (l.map Prod.fst).Nodup) (hl : l.length ≤ 100) (ht : SqT K H t xs) (hs : DpAll K H xs ds) (hg : GivesOk ds) (kx : ∀ ai H8, Same H H8 → NmD K H8 ai (innerD l ds i) → Qx (.ref ai) H8) :
    spNW K [.ref a, .ref t, .int (i : Nat)] H Qx Ex :=
  ⟨a, t, (i : Nat), l, xs, ds, rfl, hn, nd, hl, ht, hs, hg, fun e => kx a H (Same.refl _) (by unfold innerD; rw [e]; exact hn), fun y e b H' s nm => kx b H' s (by unfold innerD; rw [e]; exact nm)⟩
theorem goM_err {rec_ : NmL → PyData → List Int → Int → Told} {l : NmL} {ds : List PyData} {at_ p e : List Int} {ws : List Str} {r : List (List Int)} {k : Nat} {sorts : List Str} {c : Int} {d' : PyData} (h : alongD (.tuple ds) p = some d') (m : rec_ (innerD l ds k) d' (at_ ++ p) c = .error e) : goM rec_ l ds at_ ws (p :: r) k sorts c = .error e := by
  unfold goM
  rw [h]
  dsimp only
  rw [m]
theorem goM_bad {rec_ : NmL → PyData → List Int → Int → Told} {l : NmL} {ds : List PyData} {at_ p : List Int} {ws : List Str} {r : List (List Int)} {k : Nat} {sorts : List Str} {c c' : Int} {d' : PyData} {g wd : Str} (h : alongD (.tuple ds) p = some d') (m : rec_ (innerD l ds k) d' (at_ ++ p) c = .ok (g, c'))
    (e : ws[k]? = some wd) (b : isWantedD g wd sorts = false) : goM rec_ l ds at_ ws (p :: r) k sorts c = .error (at_ ++ p) := by
  have gd : ws.getD k "" = wd := by rw [List.getD_eq_getElem?_getD, e]; rfl
  unfold goM
  rw [h]
  dsimp only
  rw [m]
  dsimp only
  rw [gd, b]
  rfl
theorem goM_next {rec_ : NmL → PyData → List Int → Int → Told} {l : NmL} {ds : List PyData} {at_ p : List Int} {ws : List Str} {r : List (List Int)} {k : Nat} {sorts : List Str} {c c' : Int} {d' : PyData} {g wd : Str} (h : alongD (.tuple ds) p = some d') (m : rec_ (innerD l ds k) d' (at_ ++ p) c = .ok (g, c'))
    (e : ws[k]? = some wd) (b : isWantedD g wd sorts = true) : goM rec_ l ds at_ ws (p :: r) k sorts c = goM rec_ l ds at_ ws r (k + 1) (sorts ++ [g]) c' := by
  have gd : ws.getD k "" = wd := by rw [List.getD_eq_getElem?_getD, e]; rfl
  rw [goM]
  rw [h]
  dsimp only
  rw [m]
  dsimp only
  rw [gd, b]
  rfl
theorem inner_ok {l : NmL} {ds : List PyData} {k : Int} (h : NmlOk l) : NmlOk (innerD l ds k) ∧ (innerD l ds k).length ≤ l.length + 1 := by
  unfold innerD
  split
  · exact ⟨h, by omega⟩
  · exact ⟨h.put _ _, putL_len _ _ _⟩
theorem body_sortAt {f fF fW fP fI fG fN fA : Addr} {fd dFm dW dPt dI dGv dN dA : FuncData} {j : Nat} (F : Fun K "_sort_at" "_sort_at" sSortAt f fd) (L : LookTop P K mg C cT fT) (mS : mg "_sort_at" = some (.ref f)) (bS : Binds K fd ["look", "names", "term", "at", "depth"] [])
    (G : SaTop P w K mg base fF fW fP fI fG fN fA dFm dW dPt dI dGv dN dA) (GS : FnOk P w K mg base (L2.CX P w) (4 + j) f fd ["look", "names", "term", "at", "depth"] (spPrev K C cT j)) : FnOk P w K mg base (L2.CX P w) (4 + j + 1) f fd ["look", "names", "term", "at", "depth"] (spSortAt K C cT j) := by
  refine F.okX scSortAt (fun vs H Q E h => ?_) (fun cdv A outer s H vs Q E hr h => ?_)
  · obtain ⟨u, a, q, v, n, c, dep, l, d, at_, rfl, _⟩ := h
    rfl
  · obtain ⟨u, a, q, v, n, c, dep, l, d, at_, rfl, hu, hdep, hn, hok, hll, hd, hdeep, hq, hal, k1, k2⟩ := h
    have nd := scSortAt.nd
    have hr1 := hr.mono (show 1 ≤ 4 + j by omega)
    have hr2 := hr.mono (show 2 ≤ 4 + j by omega)
    have hr4 := hr.mono (show 4 ≤ 4 + j by omega)
    obtain ⟨tD, mD⟩ := L.mD
    obtain ⟨tM, mM⟩ := L.mM
    let X : Cx := cxOf (L2.CX P w) P w K mg base saN "_sort_at" (defScope sSortAt) f cdv A outer s H E
    have tk : Takes X (fun cls d _ H => E cls d H) := takes_of rfl rfl rfl rfl
    have px : Passes (L2.CX P w) X E := passes_call tk (fun _ _ _ _ h => h)
    refine ⟨_, pss_cons (ps_fldaug (X := X) (pv 0) pe_int in_add)
      (pss_cons (ps_if (PW.pt (pw_or (pt_cmpR op_gt (pv 4) (pe_glob (v := V.int 12) (by rfl) mD ⟨tD, rfl⟩) (nomark _)) (pw_or1 (pt_cmpR op_gt (pe_fld (pv 0) rfl) (pe_glob (v := V.int 60) (by rfl) mM ⟨tM, rfl⟩) (nomark _))))) (pss_one (ps_raise rfl tk (pmk_err L.tT hr (by rfl) L.mT (pv 3)))) pss_nil)
      (pss_cons (ps_if (pt_not (pt_val (pe_call G.GF hr4 rfl G.mF G.kF G.bF .nil pass0 (pa_cons (pe_fld (pv 0) rfl) (pa_cons (pv 1) (pa_cons (pv 2) pa_nil)))))) (pss_one (ps_raise rfl tk (pmk_err L.tT hr (by rfl) L.mT (pv 3)))) pss_nil)
      (pss_cons (ps_set (i := 5) nd rfl (Or.inl rfl) (pe_call G.GW hr1 rfl G.mW G.kW G.bW .nil pass0 (pa_cons (pv 1) (pa_cons (pv 2) pa_nil))))
      (pss_cons (ps_set (i := 6) nd rfl (Or.inl rfl) (pe_lst pa_nil))
      (pss_cons (ps_for (passes_of rfl) rfl (pi_enum (by rfl) L.enum (pa_cons (pe_call G.GP hr1 rfl G.mP G.kP G.bP .nil pass0 (pa_cons (pv 2) pa_nil)) pa_nil)) (pg_tup (by rfl) (pgs_cons (pg_name (i := 7) nd rfl (Or.inl rfl)) (pgs_cons (pg_name (i := 8) nd rfl (Or.inl rfl)) pgs_nil)))
        (pss_cons (ps_set (i := 9) nd rfl (Or.inl rfl) (pe_call G.GN hr2 rfl G.mN G.kN G.bN .nil pass0 (pa_cons (pv 1) (pa_cons (pv 2) (pa_cons (pv 7) pa_nil)))))
        (pss_cons (ps_set (i := 10) nd rfl (Or.inl rfl) (pe_call GS hr rfl mS F.kp bS .nil px (pa_cons (pv 0) (pa_cons (pv 9) (pa_cons (pe_call G.GA hr1 rfl G.mA G.kA G.bA .nil pass0 (pa_cons (pv 2) (pa_cons (pv 8) pa_nil))) (pa_cons (pe_op op_catA (pv 3) (pv 8)) (pa_cons (pe_op op_add (pv 4) pe_int) pa_nil)))))))
        (pss_cons (ps_if (pt_not (pt_val (pe_call G.GI hr1 rfl G.mI G.kI G.bI .nil pass0 (pa_cons (pv 10) (pa_cons (pe_ix ix_seq (pv 5) (pv 7) (fun _ _ => rfl)) (pa_cons (pv 6) pa_nil)))))) (pss_one (ps_raise rfl tk (pmk_err L.tT hr (by rfl) L.mT (pe_op op_catA (pv 3) (pv 8))))) pss_nil)
        (pss_one (ps_expr (pe_bm PySem.F.plainAttrs_list PySem.F.slot_list_append PySem.F.type_list_append mt_append (pv 6) (pa_cons (pv 10) pa_nil))))))))
      (pss_one (ps_ret (pe_call G.GG hr1 rfl G.mG G.kG G.bG .nil pass0 (pa_cons (pv 1) (pa_cons (pv 2) (pa_cons (pv 6) pa_nil))))))))))), ?_⟩
    obtain ⟨dx, hu⟩ := hu
    -- look.nodes += 1
    refine ⟨_, rfl, u, C, dx, lookFs n c, .int c, rfl, hu, L.cl, L.nN, lk_nodes, ?_⟩
    refine ⟨_, _, rfl, rfl, dx, lookFs n c, hu, by show 2 < 1000; decide, ?_⟩
    rw [put_nodes]
    have off : Ext H (upd H u (.ins C dx (lookFs n (c + 1)))) u := fun b o hb e => by rw [upd_ne hb]; exact e
    have hu1 : (upd H u (.ins C dx (lookFs n (c + 1)))) u = some (.ins C dx (lookFs n (c + 1))) := upd_same
    generalize upd H u (.ins C dx (lookFs n (c + 1))) = H1 at off hu1 ⊢
    have hn1 := off.nm hu hn
    have hd1 := off.dp hu hd
    have hq1 := off.sqT hu hq
    -- depth > MOST_DEPTH or look.nodes > MOST_NODES
    refine ⟨_, rfl, _, _, rfl, rfl, _, rfl, ?_⟩
    cases j with
    | zero =>
      rw [decide_eq_true (show (12 : Int) < dep by omega)]
      exact iteT (iteT ⟨_, rfl, fun x nx => k2 at_ H1 q x rfl off hq1 nx⟩)
    | succ j =>
    rw [decide_eq_false (show ¬ (12 : Int) < dep by omega)]
    refine iteF ?_
    refine ⟨_, rfl, u, C, dx, _, _, rfl, hu1, L.cl, L.nN, lk_nodes, _, _, rfl, rfl, _, rfl, ?_⟩
    by_cases c60 : (60 : Int) < c + 1
    · rw [decide_eq_true c60]
      exact iteT ⟨_, rfl, fun x nx => k2 at_ H1 q x (by unfold sortM; rw [if_pos c60]) off hq1 nx⟩
    rw [decide_eq_false c60]
    refine iteF ?_
    -- _has_form(look.size, names, term)
    refine ⟨_, rfl, u, C, dx, _, _, rfl, hu1, L.cl, L.nS, lk_size, _, rfl, _, rfl, n, a, l, v, d, rfl, hn1, hd1, fun ds e x hx => ?_, fun H2 s2 => ⟨_, rfl, ?_⟩⟩
    · subst e
      cases hdeep with
      | tup _ t => exact (t _ hx).here.1 x rfl
      | leaf _ nt => exact absurd rfl (nt ds)
    by_cases hf : formD n l d = false
    · rw [hf]
      exact iteT ⟨_, rfl, fun x nx => k2 at_ H2 q x (by unfold sortM; rw [if_neg c60, if_pos hf]) (off.trans (.of s2)) (sqT_same s2 hq1) nx⟩
    have hform : formD n l d = true := by simpa using hf
    rw [hform]
    refine iteF ?_
    obtain ⟨ds, ps, S⟩ := shape_of hform hok (fun ds e as m => hdeep.here.2 as ds e m)
    obtain rfl := S.d_
    obtain ⟨⟩ | ⟨⟩ | ⟨⟩ | ⟨⟩ | ⟨⟩ | @⟨t, xs, _, ht1, hs1⟩ := hd1
    have hs2 := dps_same s2 hs1
    have ht2 := sqT_same s2 ht1
    refine ⟨_, rfl, _, rfl, a, t, l, xs, ds, rfl, hn1.same s2, ht2, hs2, S.word, fun b H3 s3 hw3 => ?_⟩
    -- sorts = []
    refine ⟨Nat.zero_le _, fun so nso => ?_⟩
    have s4 : Same H3 (upd H3 so (.lst [])) := fun b o e => by rw [upd_ne (ne_of_none e nso)]; exact e
    have e4 : (upd H3 so (.lst [])) so = some (.lst []) := upd_same
    generalize upd H3 so (.lst []) = H4 at s4 e4 ⊢
    have s24 := s3.trans s4
    refine ⟨_, rfl, t, xs, ds, ps, rfl, sqT_same s24 ht2, dps_same s24 hs2, S.paths, S.few, fun pb H5 s5 pp => ?_⟩
    obtain ⟨as, eas, las, pas⟩ := pp
    refine ⟨pb, as.map V.ref, rfl, SqL.of eas, ?_⟩
    have all5 : Same H1 H5 := (s2.trans s24).trans s5
    have eso5 := s5 _ _ e4
    have hnD : NmD K H1 a l := hn1
    have wr5 : WantR K H5 b so (wantedD l ds) := ((hw3.r hok nso).same s4).same s5
    have nso1 : H1 so = none := (s2.trans s3).free nso
    have plen : as.length = ps.length := las
    refine for_it (walk_enum (K := K) (a := pb) (xs := as.map V.ref)) (fun i σ H' => ∃ (sorts : List Str) (c' : Int) (g7 g8 g9 g10 : Option V), σ = [some (.ref u), some (.ref a), some (.ref t), some (.ref q), some (.int dep), some (.ref b), some (.ref so), g7, g8, g9, g10] ∧
        Ext H1 H' u ∧ LookAt H' u C n c' ∧ H' so = some (.lst (sorts.map V.str)) ∧ sorts.length = i ∧ H' pb = some (.lst (as.map V.ref)) ∧ (∀ (j : Nat) (a : Addr) (p : List Int), as[j]? = some a → ps[j]? = some p → H' a = some (.tup (p.map V.int))) ∧ WantR K H' b so (wantedD l ds) ∧
        goM (sortM n j) l ds at_ (wantedD l ds) (ps.drop i) i sorts c' = goM (sortM n j) l ds at_ (wantedD l ds) ps 0 [] (c + 1))
      ⟨[], c + 1, none, none, none, none, rfl, .of all5, ⟨dx, all5 _ _ hu1⟩, eso5, rfl, eas, pas, wr5, rfl⟩ (fun i σ H' _ hh => ?_) ?_ ?_
    · obtain ⟨_, _, _, _, _, _, _, _, _, _, _, e, _⟩ := hh
      exact SqL.of e
    · rintro i y σ H6 H7 hi ⟨sorts, c', g7, g8, g9, g10, rfl, x6, ⟨dx6, hu6⟩, eso6, ls, epb, hpt, wr, go6⟩ ⟨T1, x1, y1, rfl, nT, rfl, hx1, hy1⟩
      obtain rfl := Option.some.inj hx1
      rw [List.length_map] at hi
      replace hy1 : (as.map V.ref)[i]? = some y1 := hy1
      rw [List.getElem?_map] at hy1
      obtain ⟨pa, epa⟩ : ∃ pa, as[i]? = some pa := ⟨_, List.getElem?_eq_getElem hi⟩
      rw [epa] at hy1
      obtain rfl := Option.some.inj hy1
      obtain ⟨p, ep⟩ : ∃ p, ps[i]? = some p := ⟨_, List.getElem?_eq_getElem (by omega)⟩
      have sT : Same H6 (upd H6 T1 (.tup [.int (i : Nat), .ref pa])) := fun b o e => (upd_ne (ne_of_none e nT)).trans e
      refine ⟨T1, _, rfl, .inl (.inl upd_same), rfl, _, _, rfl, _, [], rfl, rfl, ?_⟩
      have x7 := x6.trans (.of sT)
      have hu7 := sT _ _ hu6
      have eso7 := sT _ _ eso6
      have epb7 := sT _ _ epb
      have hpt7 : ∀ (j : Nat) (a : Addr) (p : List Int), as[j]? = some a → ps[j]? = some p → (upd H6 T1 (.tup [.int (i : Nat), .ref pa])) a = some (.tup (p.map V.int)) := fun j a p h1 h2 => sT _ _ (hpt j a p h1 h2)
      have wr7 := wr.same sT
      generalize upd H6 T1 (.tup [.int (i : Nat), .ref pa]) = H7 at x7 hu7 eso7 epb7 hpt7 wr7 ⊢
      obtain ⟨lp, npe, d', hal'⟩ := S.part i p ep
      obtain ⟨wd, ewd⟩ : ∃ wd, (wantedD l ds)[i]? = some wd := ⟨_, List.getElem?_eq_getElem (by rw [S.same]; omega)⟩
      have dr : ps.drop i = p :: ps.drop (i + 1) := by
        have lt : i < ps.length := by omega
        rw [List.drop_eq_getElem_cons lt, (List.getElem?_eq_some_iff.mp ep).2]
      rw [dr] at go6
      have gd : (wantedD l ds).getD i "" = wd := by rw [List.getD_eq_getElem?_getD, ewd]; rfl
      -- inner
      refine ⟨_, rfl, _, rfl, _, rfl, ?_⟩
      dsimp only [tNil]
      show spNW K [.ref a, .ref t, .int ((i : Nat) : Int)] H7 _ _
      refine nw_key (x7.nm hu1 hn1) hok.1 (by omega) (x7.sqT hu1 ht1) (x7.dps hu1 hs1) S.gives fun ai H8 s8 nm8 => ?_
      have hu8 := s8 _ _ hu7
      have eso8 := s8 _ _ eso7
      have epb8 := s8 _ _ epb7
      have hpa8 := s8 _ _ (hpt7 i pa p epa ep)
      have x8 := x7.trans (.of s8)
      refine ⟨_, rfl, _, rfl, _, rfl, _, rfl, .ref t, pa, .tuple ds, d', p, rfl, SqT.of hpa8, .tup (x8.sqT hu1 ht1) (x8.dps hu1 hs1), hal', fun v' dv' => ?_⟩
      refine ⟨_, rfl, _, rfl, ?_⟩
      refine cat_key (x8.sqT hu1 hq1) (SqT.of hpa8) (by omega) npe fun r H9 s9 hr9 => ?_
      refine ⟨_, rfl, _, _, rfl, rfl, ?_⟩
      have hu9 := s9 _ _ hu8
      have x9 := x8.trans (.of s9)
      obtain ⟨io, il⟩ := inner_ok (ds := ds) (k := i) hok
      have s79 := s8.trans s9
      have grow : ∀ {H10 : Hp}, Ext H9 H10 u → H10 so = some (.lst (sorts.map V.str)) ∧ H10 pb = some (.lst (as.map V.ref)) ∧ (∀ (j : Nat) (a : Addr) (p : List Int), as[j]? = some a → ps[j]? = some p → H10 a = some (.tup (p.map V.int))) ∧ WantR K H10 b so (wantedD l ds) := fun x10 =>
        ⟨x10 _ _ (ne_of (s9 _ _ eso8) hu9 (by intro z; cases z)) (s9 _ _ eso8), x10 _ _ (ne_of (s9 _ _ epb8) hu9 (by intro z; cases z)) (s9 _ _ epb8), fun j a p h1 h2 => by
          have z := s79 _ _ (hpt7 j a p h1 h2)
          exact x10 _ _ (ne_of z hu9 (by intro y; cases y)) z, (wr7.same s79).ext x10 hu9⟩
      refine ⟨u, ai, r, v', n, c', dep + 1, innerD l ds i, d', at_ ++ p, rfl, ⟨dx6, hu9⟩, by omega, nm8.same s9, io, by omega, (Kp.of s9).dp dv', hdeep.part hal', hr9, by rw [List.length_append]; omega, fun g c2 H10 hM x10 hl10 => ?_, fun e H10 q' x hM x10 hq' nx => ?_⟩
      · obtain ⟨g1, g2, g3, g4⟩ := grow x10
        obtain ⟨dx10, hu10⟩ := hl10
        refine ⟨_, rfl, _, rfl, _, rfl, ?_⟩
        show rIx K (.ref b) (.int ((i : Nat) : Int)) H10 _
        refine g4.ix ewd ?_
        refine ⟨_, rfl, g, wd, so, sorts, rfl, SqL.of g1, fun ea => ?_, fun H11 s11 => ⟨_, rfl, ?_⟩⟩
        · subst ea
          have one := S.alike i ewd
          have ne : sorts ≠ [] := fun z => by
            rw [z] at ls
            simp at ls
            omega
          exact ⟨sorts.dropLast, sorts.getLast ne, (List.dropLast_concat_getLast ne).symm⟩
        by_cases hw : isWantedD g wd sorts = true
        · rw [hw]
          refine iteF ?_
          have eso11 := s11 _ _ g1
          have epb11 := s11 _ _ g2
          have pbso : pb ≠ so := fun z => by
            rw [z, eso11] at epb11
            have q := congrArg (fun l : List V => l[i]?) (HO.lst.inj (Option.some.inj epb11))
            simp only [List.getElem?_map, epa] at q
            cases hq : sorts[i]? with
            | none => rw [hq] at q; cases q
            | some y => rw [hq] at q; cases q
          have x11 := (x9.trans x10).trans (.of s11)
          refine ⟨.ref so, rfl, .inl ⟨rfl, _, SqL.of eso11⟩, .str g, rfl, so, _, .str g, rfl, rfl, eso11, ?_, sorts ++ [g], c2, _, _, _, _, rfl, fun b o nb e => ?_, ⟨dx10, ?_⟩, ?_, ?_, ?_, fun j a p h1 h2 => ?_, (g4.same s11).write eso11, ?_⟩
          · rw [List.length_map, ls]
            exact small1000 (by have := S.few; omega)
          · rw [upd_ne (ne_of_none e nso1)]
            exact x11 b o nb e
          · exact (upd_ne (ne_of hu10 g1 (by intro z; cases z))).trans (s11 _ _ hu10)
          · rw [upd_same, List.map_append]
            rfl
          · rw [List.length_append, ls]
            rfl
          · exact (upd_ne pbso).trans epb11
          · have z := s11 _ _ (g3 j a p h1 h2)
            exact (upd_ne (ne_of z eso11 (by intro y; cases y))).trans z
          · rw [← goM_next hal' hM ewd hw]
            exact go6
        · have hw' : isWantedD g wd sorts = false := by simpa using hw
          rw [hw']
          refine iteT ?_
          have x11 := (x9.trans x10).trans (.of s11)
          have hpa11 : SqT K H11 pa (p.map V.int) := SqT.of (s11 _ _ (g3 i pa p epa ep))
          refine ⟨_, rfl, _, rfl, ?_⟩
          refine cat_key (x11.sqT hu1 hq1) hpa11 (by omega) npe fun r2 H12 s12 hr12 x nx => ?_
          rw [goM_bad hal' hM ewd hw'] at go6
          exact k2 (at_ ++ p) H12 r2 x (sortM_err c60 hform S.paths go6.symm) ((off.trans x11).trans (.of s12)) hr12 nx
      · rw [goM_err hal' hM] at go6
        exact k2 e H10 q' x (sortM_err c60 hform S.paths go6.symm) ((off.trans x9).trans x10) hq' nx
    · rintro σ H6 ⟨sorts, c', g7, g8, g9, g10, rfl, x6, hl6, eso6, ls, epb, hpt, wr, go6⟩
      rw [List.length_map] at ls go6
      rw [plen, List.drop_length] at go6
      obtain ⟨g, hg⟩ := S.given sorts (by omega)
      refine ⟨_, rfl, _, rfl, _, rfl, a, t, so, l, xs, ds, sorts, g, rfl, x6.nm hu1 hn1, x6.sqT hu1 ht1, x6.dps hu1 hs1, SqL.of eso6, hg, k1 g c' H6 (sortM_ok c60 hform S.paths go6.symm hg) (off.trans x6) hl6⟩
end
end Jd
/-! _sort_at at every depth; checked_sort, sort_of and is_term, whole. -/
namespace Jd
open PySem PySem.Spec PyProof.Rows L2 RZ
section
variable {P : Program} {w : World} {K : PySem.W.Frag} {mg : Str → Option Value} {base : Heap} {H : Hp} {cT fT C cN cS : Addr}
theorem ok_sortAt {f fF fW fP fI fG fN fA : Addr} {fd dFm dW dPt dI dGv dN dA : FuncData} (F : Fun K "_sort_at" "_sort_at" sSortAt f fd) (L : LookTop P K mg C cT fT) (mS : mg "_sort_at" = some (.ref f)) (bS : Binds K fd ["look", "names", "term", "at", "depth"] [])
    (G : SaTop P w K mg base fF fW fP fI fG fN fA dFm dW dPt dI dGv dN dA) : ∀ j : Nat, FnOk P w K mg base (L2.CX P w) (4 + j + 1) f fd ["look", "names", "term", "at", "depth"] (spSortAt K C cT j)
  | 0 => body_sortAt (j := 0) F L mS bS G (show FnOk P w K mg base (L2.CX P w) (4 + 0) f fd ["look", "names", "term", "at", "depth"] (spPrev K C cT 0) from fnNever)
  | j + 1 => body_sortAt (j := j + 1) F L mS bS G (show FnOk P w K mg base (L2.CX P w) (4 + (j + 1)) f fd ["look", "names", "term", "at", "depth"] (spPrev K C cT (j + 1)) from ok_sortAt F L mS bS G j)
/-- what checked_sort says of right names and any data -/
def SortsTo (K : PySem.W.Frag) (cT : Addr) (n : Int) (l : NmL) (d : PyData) (H : Hp) (Q : VK) (E : XK) : Prop :=
  (∀ g c' H', sortM n 12 l d [] 0 = .ok (g, c') → Same H H' → Q (.str g) H') ∧
  (∀ p H' q' x, sortM n 12 l d [] 0 = .error p → Same H H' → SqT K H' q' (p.map V.int) → H' x = none → E (.ref cT) (some x) (upd H' x (.xd [(("at" : Str), .ref q')])))
theorem SortsTo.later {n : Int} {l : NmL} {d : PyData} {H H' : Hp} {Q : VK} {E : XK} (h : SortsTo K cT n l d H Q E) (s : Same H H') : SortsTo K cT n l d H' Q E :=
  ⟨fun g c' H2 e s2 => h.1 g c' H2 e (s.trans s2), fun p H2 q' x e s2 hq nx => h.2 p H2 q' x e (s.trans s2) hq nx⟩
def spChecked (K : PySem.W.Frag) (cT : Addr) : Sp := fun vs H Q E => ∃ (a : Addr) (v : V) (n : Int) (l : NmL) (d : PyData), vs = [.int n, .ref a, v] ∧ NmD K H a l ∧ NmlOk l ∧ l.length ≤ 78 ∧ Dp K H v d ∧ Deep fineD d ∧ SortsTo K cT n l d H Q E
theorem ok_checked {f fS fI : Addr} {fd fdS fdI : FuncData} (F : Fun K "checked_sort" "checked_sort" sChecked f fd) (M : Mk K C fI) (mL : mg "Look" = some (.ref C)) (GI : FnOk P w K mg base CX0 1 fI fdI ["self", "size"] (spLookInit C)) (bI : Binds K fdI ["self", "size"] [])
    (GS : FnOk P w K mg base (L2.CX P w) 17 fS fdS ["look", "names", "term", "at", "depth"] (spSortAt K C cT 12)) (kS : PySem.W.keepIn K (.ref fS) = true) (bS : Binds K fdS ["look", "names", "term", "at", "depth"] []) (mS : mg "_sort_at" = some (.ref fS)) :
    FnOk P w K mg base (L2.CX P w) 18 f fd ["size", "names", "term"] (spChecked K cT) := by
  refine F.okX scChecked (fun vs H Q E h => ?_) (fun cdv A outer s H vs Q E hr h => ?_)
  · obtain ⟨a, v, n, l, d, rfl, _⟩ := h
    rfl
  · obtain ⟨a, v, n, l, d, rfl, hn, ok, hll, hd, hdeep, k1, k2⟩ := h
    have hr2 : Room 2 _ := hr.mono (show 2 ≤ 17 by decide)
    let X : Cx := cxOf (L2.CX P w) P w K mg base ["size", "names", "term"] "checked_sort" (defScope sChecked) f cdv A outer s H E
    have tk : Takes X (fun cls d _ H => E cls d H) := takes_of rfl rfl rfl rfl
    have px : Passes (L2.CX P w) X E := passes_call tk (fun _ _ _ _ h => h)
    refine ⟨_, pss_one (ps_ret (X := X) (pe_call GS hr rfl mS kS bS .nil px (pa_cons (pe_make M GI hr2 rfl mL bI .nil pass0 (pa_cons (pv 0) pa_nil)) (pa_cons (pv 1) (pa_cons (pv 2) (pa_cons (pe_tup pa_nil) (pa_cons pe_int pa_nil))))))), ?_⟩
    refine ⟨_, rfl, fun p dx np ndx nex => ?_⟩
    have s0 : Same H (upd (upd H dx (.own p)) p (.ins C dx [])) := fun b o e => by
      rw [upd_ne (ne_of_none e np), upd_ne (ne_of_none e ndx)]
      exact e
    refine ⟨H, p, dx, n, rfl, s0, np, upd_same, fun H1 dx' s1 e1 => ⟨rfl, ?_⟩⟩
    refine ⟨_, rfl, _, rfl, Nat.zero_le _, fun q nq => ?_⟩
    have s2 : Same H1 (upd H1 q (.tup [])) := fun b o e => by rw [upd_ne (ne_of_none e nq)]; exact e
    have e2 := s2 _ _ e1
    have eq : (upd H1 q (.tup [])) q = some (.tup []) := upd_same
    generalize upd H1 q (.tup []) = H2 at s2 e2 eq ⊢
    have s12 := s1.trans s2
    refine ⟨p, a, q, v, n, 0, 1, l, d, [], rfl, ⟨dx', e2⟩, by decide, hn.same s12, ok, by omega, (dp_same s12 hd), hdeep, SqT.of eq, by decide, fun g c' H3 hM x3 _ => ?_, fun r H3 q' x hM x3 hq nx => ?_⟩
    · exact k1 g c' H3 hM fun b o e => x3 b o (ne_of_none e np) (s12 _ _ e)
    · exact k2 r H3 q' x hM (fun b o e => x3 b o (ne_of_none e np) (s12 _ _ e)) hq nx
/-- sort_of: a wrong size, wrong names, or as checked_sort says -/
def spSortOfW (K : PySem.W.Frag) (cN cS cT : Addr) : Sp := fun vs H Q E => ∃ v vn vt, vs = [v, vn, vt] ∧ (Bad2 K cN cS v vn H E ∨
  ∃ (n : Int) (a : Addr) (l : NmL) (o : Option (List (Key × PyData))) (d : PyData), v = .int n ∧ vn = .ref a ∧ withinD 2 4 (.int n) = true ∧ NmAt K H vn o ∧ namesD o = true ∧ NmD K H a l ∧ NmlOk l ∧ l.length ≤ 78 ∧ Dp K H vt d ∧ Deep fineD d ∧ SortsTo K cT n l d H Q E)
theorem ok_sortOfW {f fZ fM fC : Addr} {fd dZ dM dC : FuncData} (F : Fun K "sort_of" "sort_of" sSortOf f fd) (G : Chk P w K mg base cN cS fZ fM dZ dM) (GC : FnOk P w K mg base (L2.CX P w) 18 fC dC ["size", "names", "term"] (spChecked K cT)) (kC : PySem.W.keepIn K (.ref fC) = true) (bC : Binds K dC ["size", "names", "term"] []) (mC : mg "checked_sort" = some (.ref fC)) :
    FnOk P w K mg base (L2.CX P w) 19 f fd ["size", "names", "term"] (spSortOfW K cN cS cT) := by
  refine F.okX scSortOf (fun vs H Q E h => ?_) (fun cdv A outer s H vs Q E hr h => ?_)
  · obtain ⟨v, vn, vt, rfl, _⟩ := h
    rfl
  · obtain ⟨v, vn, vt, rfl, hb⟩ := h
    have hr3 := hr.mono (show 3 ≤ 18 by decide)
    have hr4 := hr.mono (show 4 ≤ 18 by decide)
    let X : Cx := cxOf (L2.CX P w) P w K mg base ["size", "names", "term"] "sort_of" (defScope sSortOf) f cdv A outer s H E
    have tk : Takes X (fun cls d _ H => E cls d H) := takes_of rfl rfl rfl rfl
    have px : Passes (L2.CX P w) X E := passes_call tk (fun _ _ _ _ h => h)
    refine ⟨_, pss_cons (ps_expr (X := X) (pe_callS (E := WE fun cls d _ H => E cls d H) G.gZ hr3 rfl G.mZ G.kZ G.bZ (fun σ => passAt (takes_of rfl rfl rfl rfl) σ) (pa_cons (pv 0) pa_nil)))
      (pss_cons (ps_expr (pe_callS (E := WE fun cls d _ H => E cls d H) G.gM hr4 rfl G.mM G.kM G.bM (fun σ => passAt (takes_of rfl rfl rfl rfl) σ) (pa_cons (pv 1) pa_nil)))
      (pss_one (ps_ret (pe_call GC hr rfl mC kC bC .nil px (pa_cons (pv 0) (pa_cons (pv 1) (pa_cons (pv 2) pa_nil))))))), ?_⟩
    rcases hb with (⟨d, hd, e1, k⟩ | ⟨d, o, hd, e1, hn, e2, k⟩) | ⟨n, a, l, o, d, rfl, rfl, e1, hn, e2, hl, ok, hll, hd, hdeep, k⟩
    · exact ⟨_, rfl, v, d, rfl, hd, fun z => absurd (e1.symm.trans z) Bool.false_ne_true, fun _ x hx => k x hx⟩
    · refine ⟨_, rfl, v, d, rfl, hd, fun _ => ?_, fun z => absurd (z.symm.trans e1) Bool.false_ne_true⟩
      exact ⟨_, rfl, vn, o, rfl, hn, fun z => absurd (e2.symm.trans z) Bool.false_ne_true, fun _ H' s => k H' s⟩
    · refine ⟨_, rfl, _, _, rfl, .int n, fun _ => ?_, fun z => absurd (z.symm.trans e1) Bool.false_ne_true⟩
      refine ⟨_, rfl, _, o, rfl, hn, fun _ H1 s1 => ?_, fun z => absurd (z.symm.trans e2) Bool.false_ne_true⟩
      exact ⟨_, rfl, _, rfl, _, rfl, a, vt, n, l, d, rfl, hl.same s1, ok, hll, dp_same s1 hd, hdeep, k.later s1⟩
/-- is_term: a wrong size, wrong names, or whether checked_sort finds a sort -/
def spIsTermW (K : PySem.W.Frag) (cN cS : Addr) : Sp := fun vs H Q E => ∃ v vn vt, vs = [v, vn, vt] ∧ (Bad2 K cN cS v vn H E ∨
  ∃ (n : Int) (a : Addr) (l : NmL) (o : Option (List (Key × PyData))) (d : PyData), v = .int n ∧ vn = .ref a ∧ withinD 2 4 (.int n) = true ∧ NmAt K H vn o ∧ namesD o = true ∧ NmD K H a l ∧ NmlOk l ∧ l.length ≤ 78 ∧ Dp K H vt d ∧ Deep fineD d ∧
    (∀ g c' H', sortM n 12 l d [] 0 = .ok (g, c') → Same H H' → Q (.bl true) H') ∧ (∀ p H', sortM n 12 l d [] 0 = .error p → Same H H' → Q (.bl false) H'))
theorem ok_isTermW {f fZ fM fC : Addr} {fd dZ dM dC : FuncData} (F : Fun K "is_term" "is_term" sIsTerm f fd) (G : Chk P w K mg base cN cS fZ fM dZ dM) (mT : mg "BadTerm" = some (.ref cT)) (eP : PySem.W.exmOne K (.ref cT) (.ref cT) = some true) (GC : FnOk P w K mg base (L2.CX P w) 18 fC dC ["size", "names", "term"] (spChecked K cT)) (kC : PySem.W.keepIn K (.ref fC) = true)
    (bC : Binds K dC ["size", "names", "term"] []) (mC : mg "checked_sort" = some (.ref fC)) : FnOk P w K mg base (L2.CX P w) 19 f fd ["size", "names", "thing"] (spIsTermW K cN cS) := by
  refine F.okX scIsTerm (fun vs H Q E h => ?_) (fun cdv A outer s H vs Q E hr h => ?_)
  · obtain ⟨v, vn, vt, rfl, _⟩ := h
    rfl
  · obtain ⟨v, vn, vt, rfl, hb⟩ := h
    have hr3 := hr.mono (show 3 ≤ 18 by decide)
    have hr4 := hr.mono (show 4 ≤ 18 by decide)
    let X : Cx := cxOf (L2.CX P w) P w K mg base ["size", "names", "thing"] "is_term" (defScope sIsTerm) f cdv A outer s H E
    refine ⟨_, pss_cons (ps_expr (X := X) (pe_callS (E := WE fun cls d _ H => E cls d H) G.gZ hr3 rfl G.mZ G.kZ G.bZ (fun σ => passAt (takes_of rfl rfl rfl rfl) σ) (pa_cons (pv 0) pa_nil)))
      (pss_cons (ps_expr (pe_callS (E := WE fun cls d _ H => E cls d H) G.gM hr4 rfl G.mM G.kM G.bM (fun σ => passAt (takes_of rfl rfl rfl rfl) σ) (pa_cons (pv 1) pa_nil)))
      (pss_cons (ps_try_only (c := .ref cT) (tb := fun W => tDrop (tCallS (spChecked K cT) (WE W) (tCons (tVar 0) (tCons (tVar 1) (tCons (tVar 2) tNil))))) (Wout := fun _ _ _ _ => False) rfl rfl ⟨rfl, by decide, Or.inl mT⟩ takes0
          (fun W pn xe tk _ => pss_one (ps_expr (pe_callS (E := WE W) GC hr rfl mC kC bC (fun σ => passAt tk σ) (pa_cons (pv 0) (pa_cons (pv 1) (pa_cons (pv 2) pa_nil)))))) (fun a oe cls d pn hz hf => pss_one (ps_ret pe_bl)))
      (pss_one (ps_ret pe_bl)))), ?_⟩
    rcases hb with (⟨d, hd, e1, k⟩ | ⟨d, o, hd, e1, hn, e2, k⟩) | ⟨n, a, l, o, d, rfl, rfl, e1, hn, e2, hl, ok, hll, hd, hdeep, k1, k2⟩
    · exact ⟨_, rfl, v, d, rfl, hd, fun z => absurd (e1.symm.trans z) Bool.false_ne_true, fun _ x hx => k x hx⟩
    · refine ⟨_, rfl, v, d, rfl, hd, fun _ => ?_, fun z => absurd (z.symm.trans e1) Bool.false_ne_true⟩
      exact ⟨_, rfl, vn, o, rfl, hn, fun z => absurd (e2.symm.trans z) Bool.false_ne_true, fun _ H' s => k H' s⟩
    · refine ⟨_, rfl, _, _, rfl, .int n, fun _ => ?_, fun z => absurd (z.symm.trans e1) Bool.false_ne_true⟩
      refine ⟨_, rfl, _, o, rfl, hn, fun _ H1 s1 => ?_, fun z => absurd (z.symm.trans e2) Bool.false_ne_true⟩
      refine ⟨_, rfl, _, rfl, _, rfl, a, vt, n, l, d, rfl, hl.same s1, ok, hll, dp_same s1 hd, hdeep, fun g c' H2 hM s2 => k1 g c' H2 hM (s1.trans s2), fun p H2 q' x hM s2 hq nx => ?_⟩
      refine ⟨true, eP, fun _ a2 ha => ?_, fun q => nomatch q⟩
      exact k2 p _ hM (s1.trans (s2.trans fun b o e => (upd_ne (ne_of_none e nx)).trans e))
end
end Jd
/-! _law_parts and _law_nodes of law_k02. -/
namespace Jd
open PySem PySem.Spec PyProof.Rows L2 RZ Dk
abbrev sLNodes : Stmt := Jd.top 55
abbrev sLParts : Stmt := Jd.top 56
theorem scLNodes : FnScope ["term_here", "part"] ["term_here"] (defScope sLNodes) := ⟨rfl, rfl, rfl, by decide +kernel, rfl, by decide +kernel, by decide +kernel⟩
theorem scLParts : FnScope ["term_here"] ["term_here"] (defScope sLParts) := ⟨rfl, rfl, rfl, by decide +kernel, rfl, by decide +kernel, by decide +kernel⟩
/-- a text of a drawn term: short, and not the word that no name has -/
def okS (x : Str) : Prop := x.length ≤ sizeLine ∧ x ≠ "other"
theorem okS_of {x : Str} (h : x.length ≤ 1000) (e : x ≠ "other") : okS x := ⟨Nat.le_of_lt (small1000 h), e⟩
abbrev wordW (y : Str) : Prop := wordD (.str y) = true ∧ y ≠ "other"
/-- data of drawn terms: numbers, texts and tuples -/
inductive TD : PyData → Prop
  | int (i : Int) : TD (.int i)
  | str {x : Str} (h : okS x) : TD (.str x)
  | tup {ds : List PyData} (few : ds.length ≤ 1000) (all : ∀ d ∈ ds, TD d) : TD (.tuple ds)
theorem TD.fine {d : PyData} (h : TD d) : fineD d := by
  cases h with
  | int i => exact ⟨fun x e => (by cases e), fun as ds e => (by cases e)⟩
  | str h => exact ⟨fun x e => (by cases e; exact h.1), fun as ds e => (by cases e)⟩
  | tup few all => exact ⟨fun x e => (by cases e), fun as ds e m => by cases e; cases all _ m with | tup few2 _ => exact few2⟩
theorem TD.deep {d : PyData} (h : TD d) : Deep fineD d := by
  induction h with
  | int i => exact .leaf (TD.int i).fine fun ds e => by cases e
  | str h => exact .leaf (TD.str h).fine fun ds e => by cases e
  | tup few all ih => exact .tup (TD.tup few all).fine ih
section
variable {K : PySem.W.Frag} {H H' : Hp}
theorem dps_map {vs : List V} {ds : List PyData} (h : DpAll K H vs ds) (f : ∀ d ∈ ds, ∀ v, Dp K H v d → Dp K H' v d) : DpAll K H' vs ds := by
  have main : ∀ (ds : List PyData) (vs : List V), DpAll K H vs ds → (∀ d ∈ ds, ∀ v, Dp K H v d → Dp K H' v d) → DpAll K H' vs ds := by
    intro ds
    induction ds with
    | nil => intro vs h _; cases h; exact .nil
    | cons d ds ih =>
      intro vs h f
      cases h with
      | cons a b => exact .cons (f d (by simp) _ a) (ih _ b fun d' m => f d' (by simp [m]))
  exact main ds vs h f
/-- what holds of data without lists: it stands where tuples stand -/
theorem TD.dp {d : PyData} (t : TD d) (g : ∀ a xs, SqT K H a xs → SqT K H' a xs) : ∀ v, Dp K H v d → Dp K H' v d := by
  induction t with
  | int i => intro v h; cases h; exact .int i
  | str _ => intro v h; cases h; exact .str _
  | tup few all ih =>
    intro v h
    cases h with
    | tup ht hs => exact .tup (g _ _ ht) (dps_map hs ih)
theorem but_sqT {d l c a : Addr} {xs : List V} (D : DrawAt H d l c) (B : But H H' d l) (h : SqT K H a xs) : SqT K H' a xs := by
  obtain ⟨_, _, _, _, _, ls, cs, ed, el, _⟩ := D
  rcases h with (h | ⟨o, h⟩) | h
  · exact .inl (.inl (B _ _ h (ne_of h ed (by intro z; cases z)) (ne_of h el (by intro z; cases z))))
  · exact .inl (.inr ⟨o, B _ _ h (ne_of h ed (by intro z; cases z)) (ne_of h el (by intro z; cases z))⟩)
  · exact .inr h
end
/-- the parts that are terms -/
def partsD : List PyData → Option (List PyData)
  | .str x :: r => if x = "name" then (match r with | [_, .tuple as] => some as | _ => none) else if x = "number" ∨ x = "skip" ∨ x = "never" then some [] else if x = "made" then (match r with | [a, _, b] => some [a, b] | _ => none) else if x = "new" then (match r with | [_, _, c] => some [c] | _ => none) else some r
  | _ => none
theorem parts_tab : ∀ q ∈ forms, q.1 ≠ "name" ∧ (((q.1 = "number" ∨ q.1 = "skip" ∨ q.1 = "never") ∧ partsT.lookup q.1 = some []) ∨ (q.1 = "made" ∧ q.2.length = 3 ∧ partsT.lookup q.1 = some [1, 3]) ∨ (q.1 = "new" ∧ q.2.length = 3 ∧ partsT.lookup q.1 = some [3]) ∨
    (¬ (q.1 = "number" ∨ q.1 = "skip" ∨ q.1 = "never") ∧ q.1 ≠ "made" ∧ q.1 ≠ "new" ∧ partsT.lookup q.1 = some ((List.range q.2.length).map fun i => ((i + 1 : Nat) : Int)))) := by decide +kernel
theorem along_one {ds : List PyData} {j : Nat} {d q : PyData} (h : alongD (.tuple ds) [(j : Int)] = some q) (e : ds[j]? = some d) : d = q := by
  have z := along_nat e []
  rw [h] at z
  have y : alongD d [] = some d := by cases d <;> rfl
  rw [y] at z
  exact (Option.some.inj z).symm
theorem list_ext {α : Type} {a b : List α} (hl : a.length = b.length) (h : ∀ (i : Nat) (x y : α), a[i]? = some x → b[i]? = some y → x = y) : a = b := by
  refine List.ext_getElem? fun i => ?_
  by_cases hi : i < a.length
  · rw [List.getElem?_eq_getElem hi, List.getElem?_eq_getElem (by omega)]
    exact congrArg some (h i _ _ (List.getElem?_eq_getElem hi) (List.getElem?_eq_getElem (by omega)))
  · rw [List.getElem?_eq_none (by omega), List.getElem?_eq_none (by omega)]
theorem parts_of {n : Int} {l : NmL} {ds qs : List PyData} {ps : List (List Int)} (form : formD n l (.tuple ds) = true) (paths : pathsD ds = some ps) (lq : qs.length = ps.length)
    (along : ∀ (i : Nat) (p : List Int) (q : PyData), ps[i]? = some p → qs[i]? = some q → alongD (.tuple ds) p = some q) : partsD ds = some qs := by
  match ds, form with
  | .str x :: r, form =>
    by_cases e1 : x = "name"
    · subst e1
      simp only [pathsD, if_true] at paths
      match r, paths with
      | [a, .tuple as], paths =>
        cases paths
        simp only [partsD, if_true]
        rw [List.length_map, List.length_range] at lq
        refine congrArg some (list_ext lq.symm fun i x y hx hy => ?_)
        have z := along i [2, (i : Int)] y (by rw [List.getElem?_map, List.getElem?_range (List.getElem?_eq_some_iff.mp hx).1]; rfl) hy
        have s1 := along_nat (ds := [.str "name", a, .tuple as]) (j := 2) (d := .tuple as) rfl [((i : Nat) : Int)]
        exact along_one (s1.symm.trans z) hx
    · have f := form
      simp only [formD] at f
      rw [if_neg e1] at f
      cases ew : forms.lookup x with
      | none => rw [ew] at f; cases f
      | some ws =>
        rw [ew] at f
        have lr : r.length = ws.length := by
          have z := ((Bool.and_eq_true _ _).mp f).1
          simpa using z
        have pt : (partsT.lookup x).map (fun ps => ps.map fun i => [i]) = some ps := by
          have z := paths
          simp only [pathsD] at z
          rw [if_neg e1] at z
          exact z
        obtain ⟨_, h⟩ := parts_tab (x, ws) (PySem.mem_of_lookup ew)
        simp only at h
        simp only [partsD]
        rw [if_neg e1]
        rcases h with ⟨h1, h2⟩ | ⟨h1, h2, h3⟩ | ⟨h1, h2, h3⟩ | ⟨h0, h1, h2, h3⟩
        · rw [h2] at pt
          cases pt
          rw [if_pos h1]
          exact congrArg some (List.length_eq_zero_iff.mp lq).symm
        · rw [h3] at pt
          cases pt
          subst h1
          rw [if_neg (by decide +kernel), if_pos rfl]
          match r, lr.trans h2 with
          | [a, b, c], _ =>
            refine congrArg some (list_ext (by rw [lq]; rfl) fun i x y hx hy => ?_)
            match i, hx with
            | 0, hx => cases hx; exact along_one (j := 1) (along 0 [1] y rfl hy) rfl
            | 1, hx => cases hx; exact along_one (j := 3) (along 1 [3] y rfl hy) rfl
            | i + 2, hx => simp at hx
        · rw [h3] at pt
          cases pt
          subst h1
          rw [if_neg (by decide +kernel), if_neg (by decide +kernel), if_pos rfl]
          match r, lr.trans h2 with
          | [a, b, c], _ =>
            refine congrArg some (list_ext (by rw [lq]; rfl) fun i x y hx hy => ?_)
            match i, hx with
            | 0, hx => cases hx; exact along_one (j := 3) (along 0 [3] y rfl hy) rfl
            | i + 1, hx => simp at hx
        · rw [h3] at pt
          cases pt
          rw [if_neg h0, if_neg h1, if_neg h2]
          rw [List.length_map, List.length_map, List.length_range] at lq
          refine congrArg some (list_ext (by rw [lq, lr]) fun i x' y hx hy => ?_)
          have hi := (List.getElem?_eq_some_iff.mp hx).1
          have z := along i [((i + 1 : Nat) : Int)] y (by rw [List.getElem?_map, List.getElem?_map, List.getElem?_range (by omega)]; rfl) hy
          exact along_one z (by rw [List.getElem?_cons_succ]; exact hx)
/-- its parts, their nodes -/
theorem Typ.parts {n : Int} {l : NmL} {d : PyData} {g : Str} {k h : Nat} (t : Typ n l d g k h) : ∃ (ds qs : List PyData) (ks : List Nat) (h' : Nat), d = .tuple ds ∧ h = h' + 1 ∧ k = 1 + ks.sum ∧ partsD ds = some qs ∧ qs.length = ks.length ∧ ∀ (i : Nat) (q : PyData) (k : Nat), qs[i]? = some q → ks[i]? = some k → ∃ l' s, Typ n l' q s k h' := by
  cases t with
  | @mk _ ds ps _ h qs ss ks form paths given lq ls lk along want parts =>
    refine ⟨ds, qs, ks, h, rfl, rfl, rfl, parts_of form paths lq along, by omega, fun i q k a b => ?_⟩
    have hi := (List.getElem?_eq_some_iff.mp a).1
    exact ⟨_, ss[i]'(by omega), parts i q _ k a (List.getElem?_eq_getElem (by omega)) b⟩
end Jd
/-! _law_parts of law_k02. -/
namespace Jd
open PySem PySem.Spec PyProof.Rows L2 RZ Dk
section
variable {P : Program} {w : World} {K : PySem.W.Frag} {mg : Str → Option Value} {base : Heap} {H : Hp}
def spLParts (K : PySem.W.Frag) : Sp := fun vs H Q _ => ∃ (t : Addr) (xs : List V) (ds qs : List PyData), vs = [.ref t] ∧ SqT K H t xs ∧ DpAll K H xs ds ∧ partsD ds = some qs ∧ ∀ p ys H', Same H H' → H p = none → H' p = some (.lst ys) → DpAll K H' ys qs → Q (.ref p) H'
theorem ok_lparts {f : Addr} {fd : FuncData} (F : Fun K "_law_parts" "_law_parts" sLParts f fd) (mL : mg "list" = none) : FnOk P w K mg base CX0 1 f fd ["term_here"] (spLParts K) := by
  refine F.ok scLParts (fun vs H Q E h => ?_) (fun cdv A outer s H vs Q E hr h => ?_)
  · obtain ⟨t, xs, ds, qs, rfl, _⟩ := h
    rfl
  · obtain ⟨t, xs, ds, qs, rfl, ht, hs, hp, k⟩ := h
    refine ⟨_, pss_cons (ps_if (pt_cmpR op_eq (pe_ix ix_tup (pv 0) pe_int (fun _ _ => rfl)) pe_str (nomark _)) (pss_one (ps_ret (pe_callTy call_list_of (by rfl) mL (by decide +kernel) (pa_cons (pe_ix ix_tup (pv 0) pe_int (fun _ _ => rfl)) pa_nil)))) pss_nil)
      (pss_cons (ps_if (pt_cmpR op_in_seq (pe_ix ix_tup (pv 0) pe_int (fun _ _ => rfl)) (pe_lst (pa_cons pe_str (pa_cons pe_str (pa_cons pe_str pa_nil)))) (by rfl)) (pss_one (ps_ret (pe_lst pa_nil))) pss_nil)
      (pss_cons (ps_if (pt_cmpR op_eq (pe_ix ix_tup (pv 0) pe_int (fun _ _ => rfl)) pe_str (nomark _)) (pss_one (ps_ret (pe_lst (pa_cons (pe_ix ix_tup (pv 0) pe_int (fun _ _ => rfl)) (pa_cons (pe_ix ix_tup (pv 0) pe_int (fun _ _ => rfl)) pa_nil))))) pss_nil)
      (pss_one (ps_ret (pe_ifExp (pt_cmpR op_eq (pe_ix ix_tup (pv 0) pe_int (fun _ _ => rfl)) pe_str (nomark _)) (pe_lst (pa_cons (pe_ix ix_tup (pv 0) pe_int (fun _ _ => rfl)) pa_nil)) (pe_callTy call_list_of (by rfl) mL (by decide +kernel) (pa_cons (pe_slice sl_tup (pv 0) (po_some pe_int) po_none) pa_nil))))))), ?_⟩
    cases hs with
    | nil => cases hp
    | @cons x0 xs d0 ds h0 hs =>
    cases d0 with
    | str x =>
      cases h0
      refine ⟨_, rfl, t, _, 0, _, rfl, rfl, ht, atI_nat (j := 0) rfl, rfl, _, rfl, ?_⟩
      rw [dec_str]
      by_cases e1 : x = "name"
      · subst e1
        have hp' := hp
        simp only [partsD, if_true] at hp'
        cases hs with
        | nil => cases hp'
        | @cons x1 xs d1 ds h1 hs =>
        cases hs with
        | nil => cases hp'
        | @cons x2 xs d2 ds h2 hs =>
        cases hs with
        | cons _ _ => cases d2 <;> cases hp'
        | nil =>
        cases d2 with
        | tuple as =>
          cases hp'
          obtain ⟨⟩ | ⟨⟩ | ⟨⟩ | ⟨⟩ | ⟨⟩ | @⟨b, ys, _, hb, hs2⟩ := h2
          refine ⟨_, rfl, t, _, 2, _, rfl, rfl, ht, atI_nat (j := 2) rfl, b, ys, rfl, .inr hb, fun p np => ?_⟩
          have s := new_same (o := .lst ys) np
          exact k p ys _ s np upd_same (dps_same s hs2)
        | _ => cases hp'
      rw [beq_false_of_ne e1]
      refine iteF ?_
      have hp2 := hp
      simp only [partsD] at hp2
      rw [if_neg e1] at hp2
      refine ⟨_, rfl, t, _, 0, _, rfl, rfl, ht, atI_nat (j := 0) rfl, by show 3 ≤ sizeLine; decide, fun q nq => ?_⟩
      have s1 := new_same (o := .lst [.str "number", .str "skip", .str "never"]) nq
      refine ⟨q, _, rfl, .inl (SqL.of upd_same), rfl, by decide, _, rfl, ?_⟩
      have e0 := s1
      have ht1 := sqT_same s1 ht
      have hs1 := dps_same s1 (DpAll.cons (Dp.str x) hs)
      generalize upd H q (.lst [.str "number", .str "skip", .str "never"]) = H1 at s1 ht1 hs1 ⊢
      have k1 : ∀ p ys H', Same H1 H' → H1 p = none → H' p = some (.lst ys) → DpAll K H' ys qs → Q (.ref p) H' := fun p ys H' s np e h => k p ys H' (s1.trans s) (s1.free np) e h
      clear k e0 ht
      by_cases e2 : x = "number" ∨ x = "skip" ∨ x = "never"
      · rw [if_pos e2] at hp2
        cases hp2
        refine ite2 (fun _ => ?_) (fun z => ?_)
        · refine ⟨by show 0 ≤ sizeLine; decide, fun p np => ?_⟩
          exact k1 p [] _ (new_same np) np upd_same .nil
        · exfalso
          revert z
          rcases e2 with rfl | rfl | rfl <;> decide +kernel
      rw [if_neg e2] at hp2
      refine ite2 (fun z => ?_) (fun _ => ?_)
      · exfalso
        apply e2
        simp [inV, eqV] at z
        rcases z with z | z | z
        · exact .inl z.symm
        · exact .inr (.inl z.symm)
        · exact .inr (.inr z.symm)
      cases hs1 with
      | cons h0 hs1 =>
      refine ⟨_, rfl, t, _, 0, _, rfl, rfl, ht1, atI_nat (j := 0) rfl, rfl, _, rfl, ?_⟩
      rw [dec_str]
      by_cases e3 : x = "made"
      · subst e3
        rw [if_pos rfl] at hp2
        match ds, hs1, hp2 with
        | [a, b, c], hs1, hp2 =>
          cases hp2
          obtain _ | ⟨ha, hs1⟩ := hs1
          obtain _ | ⟨hb, hs1⟩ := hs1
          obtain _ | ⟨hc, hs1⟩ := hs1
          cases hs1
          refine ⟨_, rfl, t, _, 1, _, rfl, rfl, ht1, atI_nat (j := 1) rfl, _, rfl, t, _, 3, _, rfl, rfl, ht1, atI_nat (j := 3) rfl, by show 2 ≤ sizeLine; decide, fun p np => ?_⟩
          exact k1 p _ _ (new_same np) np upd_same (dps_same (new_same np) (.cons ha (.cons hc .nil)))
      rw [beq_false_of_ne e3]
      refine iteF ?_
      rw [if_neg e3] at hp2
      refine ⟨_, rfl, t, _, 0, _, rfl, rfl, ht1, atI_nat (j := 0) rfl, rfl, _, rfl, ?_⟩
      rw [dec_str]
      by_cases e4 : x = "new"
      · subst e4
        rw [if_pos rfl] at hp2
        match ds, hs1, hp2 with
        | [a, b, c], hs1, hp2 =>
          cases hp2
          obtain _ | ⟨ha, hs1⟩ := hs1
          obtain _ | ⟨hb, hs1⟩ := hs1
          obtain _ | ⟨hc, hs1⟩ := hs1
          cases hs1
          refine ⟨_, rfl, t, _, 3, _, rfl, rfl, ht1, atI_nat (j := 3) rfl, by show 1 ≤ sizeLine; decide, fun p np => ?_⟩
          exact k1 p _ _ (new_same np) np upd_same (dps_same (new_same np) (.cons hc .nil))
      rw [beq_false_of_ne e4]
      refine iteF ?_
      rw [if_neg e4] at hp2
      cases hp2
      refine ⟨_, rfl, 1, rfl, t, _, rfl, ht1, fun z => ?_, fun u nu => ?_⟩
      · rw [List.length_cons, sIx_one] at z
        exact absurd z.1 (by decide)
      rw [cut_one]
      have s2 := new_same (o := .tup xs) nu
      refine ⟨u, xs, rfl, .inr (SqT.of upd_same), fun p np => ?_⟩
      have s3 := new_same (o := .lst xs) np
      exact k1 p xs _ (s2.trans s3) (s2.free np) upd_same (dps_same (s2.trans s3) hs1)
    | _ => cases hp
end
end Jd
/-! _law_nodes of law_k02. -/
namespace Jd
open PySem PySem.Spec PyProof.Rows L2 RZ Dk
section
variable {P : Program} {w : World} {K : PySem.W.Frag} {mg : Str → Option Value} {base : Heap} {H : Hp}
theorem fnNone {CX : CXT} {j : Nat} {f : Addr} {fd : FuncData} {ps : List Str} {sp : Sp} (n : ∀ vs H Q E, ¬ sp vs H Q E) : FnOk P w K mg base CX j f fd ps sp := ⟨fun _ _ _ _ h => (n _ _ _ _ h).elim, fun _ _ _ _ _ _ _ _ _ _ _ _ _ h => (n _ _ _ _ h).elim⟩
/-- how many nodes a term has, at most h deep -/
def spLNodes (K : PySem.W.Frag) (h : Nat) : Sp := fun vs H Q _ => ∃ (v : V) (d : PyData) (n : Int) (l : NmL) (g : Str) (k : Nat), vs = [v] ∧ Dp K H v d ∧ Typ n l d g k h ∧ k ≤ 1000 ∧ ∀ H', Same H H' → Q (.int (k : Nat)) H'
theorem sum_step (ks : List Nat) (i : Nat) (k : Nat) (e : ks[i]? = some k) : (ks.take (i + 1)).map (fun k : Nat => (k : Int)) = (ks.take i).map (fun k : Nat => (k : Int)) ++ [(k : Int)] := by
  rw [List.take_add_one, e, List.map_append]
  rfl
theorem sum_cast : ∀ ks : List Nat, (ks.map fun k : Nat => (k : Int)).sum = ((ks.sum : Nat) : Int)
  | [] => rfl
  | k :: ks => by
    rw [List.map_cons, List.sum_cons, List.sum_cons, sum_cast ks]
    omega
theorem sum_ge {k : Nat} : ∀ {ks : List Nat}, k ∈ ks → k ≤ ks.sum
  | [], h => by simp at h
  | a :: ks, h => by
    rw [List.sum_cons]
    rcases List.mem_cons.mp h with rfl | h
    · omega
    · have := sum_ge h
      omega
theorem len_sum {ks : List Nat} (h : ∀ k ∈ ks, 1 ≤ k) : ks.length ≤ ks.sum := by
  induction ks with
  | nil => simp
  | cons k ks ih =>
    rw [List.sum_cons, List.length_cons]
    have := h k (by simp)
    have := ih fun k m => h k (by simp [m])
    omega
theorem ok_lnodes {f fP : Addr} {fd fdP : FuncData} (F : Fun K "_law_nodes" "_law_nodes" sLNodes f fd) (mS : mg "sum" = none) (mF : mg "_law_nodes" = some (.ref f)) (bF : Binds K fd ["term_here"] [])
    (GP : FnOk P w K mg base CX0 1 fP fdP ["term_here"] (spLParts K)) (kP : PySem.W.keepIn K (.ref fP) = true) (bP : Binds K fdP ["term_here"] []) (mP : mg "_law_parts" = some (.ref fP)) : ∀ h : Nat, FnOk P w K mg base CX0 (h + 1) f fd ["term_here"] (spLNodes K h)
  | 0 => fnNone fun vs H Q E ⟨v, d, n, l, g, k, _, _, t, _⟩ => by
    have := t.pos
    omega
  | h + 1 => by
    have ih := ok_lnodes F mS mF bF GP kP bP mP h
    refine F.ok scLNodes (fun vs H Q E h => ?_) (fun cdv A outer s H vs Q E hr h => ?_)
    · obtain ⟨v, d, n, l, g, k, rfl, _⟩ := h
      rfl
    · obtain ⟨v, d, n, l, g, k, rfl, hd, t, hk, kk⟩ := h
      have nd := scLNodes.nd
      have hr1 := hr.mono (show 1 ≤ h + 1 by omega)
      refine ⟨_, pss_one (ps_ret (pe_op op_add pe_int (pe_callB (cr_sum rfl) (by rfl) mS (by decide +kernel) (pa_cons
        (pe_lc (own := [("part", 1)]) (g := gName 1) rfl nd (pi_list (pe_call GP hr1 rfl mP kP bP .nil pass0 (pa_cons (pv 0) pa_nil))) (blkOk_by (N := ["term_here", "part"]) (sc := defScope sLNodes) (by decide +kernel))
          (fun _ _ _ _ _ => pg_name (i := 1) nd rfl (Or.inl rfl)) (fun _ _ _ _ _ => pts_nil) (fun _ _ _ _ _ => pe_call ih hr rfl mF F.kp bF .nil pass0 (pa_cons (pv 1) pa_nil))) pa_nil)))), ?_⟩
      obtain ⟨ds, qs, ks, h', rfl, eh, rfl, hp, hl, ht⟩ := t.parts
      obtain rfl : h = h' := by omega
      obtain ⟨⟩ | ⟨⟩ | ⟨⟩ | ⟨⟩ | ⟨⟩ | @⟨t0, xs, _, ht0, hs0⟩ := hd
      refine ⟨_, rfl, t0, xs, ds, qs, rfl, ht0, hs0, hp, fun p ys H1 s1 np ep hys => ?_⟩
      refine ⟨p, rfl, ⟨_, SqL.of ep⟩, fun D nD => ?_⟩
      have ly := dps_len hys
      have kle : ks.length ≤ ks.sum := len_sum fun k m => by
        obtain ⟨i, hi⟩ := List.getElem?_of_mem m
        have lt := (List.getElem?_eq_some_iff.mp hi).1
        obtain ⟨l', s', t'⟩ := ht i (qs[i]'(by omega)) k (List.getElem?_eq_getElem _) hi
        exact t'.pos.1
      refine lc_list (K := K) (a := p) (xs := ys) (fun i H' => Same H1 H' ∧ H' D = some (.lst (((ks.take i).map fun k : Nat => (k : Int)).map V.int))) ⟨new_same nD, upd_same⟩ (fun i H' _ ⟨s2, _⟩ => SqL.of (s2 _ _ ep)) ?_ ?_
      · rintro i y H2 hy ⟨s2, e2⟩
        have hi := (List.getElem?_eq_some_iff.mp hy).1
        have hq := List.getElem?_eq_getElem (show i < qs.length by omega)
        have hki := List.getElem?_eq_getElem (show i < ks.length by omega)
        obtain ⟨l', s', t'⟩ := ht i _ _ hq hki
        obtain ⟨d', e', hd'⟩ := dps_get hys hy
        rw [hq] at e'
        cases e'
        have kb := sum_ge (List.mem_of_getElem? hki)
        refine ⟨rfl, _, rfl, y, qs[i], n, l', s', ks[i], rfl, dp_same s2 hd', t', by omega, fun H3 s3 => ?_⟩
        refine ⟨_, s3 _ _ e2, small1000 (by rw [List.length_map, List.length_map, List.length_take]; omega), fun b o e => ?_, ?_⟩
        · have z := s3 _ _ (s2 _ _ e)
          rw [upd_ne (ne_of_none e nD)]
          exact z
        · rw [upd_same, sum_step ks i _ hki, List.map_append]
          rfl
      · rintro H2 ⟨s2, e2⟩
        rw [ly, hl, List.take_length] at e2
        refine ⟨D, ks.map fun k : Nat => (k : Int), rfl, SqL.of e2, _, _, rfl, rfl, ?_⟩
        rw [sum_cast]
        have z := kk H2 (s1.trans s2)
        show Q (.int ((1 : Int) + ((ks.sum : Nat) : Int))) H2
        rw [show (1 : Int) + ((ks.sum : Nat) : Int) = ((1 + ks.sum : Nat) : Int) by omega]
        exact z
end
end Jd
/-! _law_boxes of law_k02. -/
namespace Jd
open PySem PySem.Spec PyProof.Rows L2 RZ Dk
abbrev sLBoxes : Stmt := Jd.top 57
abbrev boN : List Str := ["names_here", "word"]
theorem scLBoxes : FnScope boN ["names_here"] (defScope sLBoxes) := ⟨rfl, rfl, rfl, by decide +kernel, rfl, by decide +kernel, by decide +kernel⟩
theorem plain_in {s : Str} (h : plainD (.str s) = true) : s = "num" ∨ s = "do" ∨ s = "box" := by
  simp [plainD, plainVs, inV, eqV] at h
  rcases h with z | z | z
  · exact .inl z.symm
  · exact .inr (.inl z.symm)
  · exact .inr (.inr z.symm)
theorem plain_ok {s : Str} (h : plainD (.str s) = true) : PyData.strOk s = true := by
  rcases plain_in h with rfl | rfl | rfl <;> decide +kernel
/-- drawn names, and the words that boxes bring -/
structure NmG (l : NmL) : Prop where
  nd : (l.map Prod.fst).Nodup
  ok : ∀ q ∈ l, (wordW q.1 ∧ PyData.strOk q.1 = true) ∧ ∃ ss : List Str, q.2.1 = ss.map PyData.str ∧ ss.length ≤ 3 ∧ (∀ s ∈ ss, plainD (.str s) = true) ∧ plainD (.str q.2.2) = true
theorem NmG.nml {l : NmL} (h : NmG l) : NmlOk l := ⟨h.nd, fun q hq => by
  obtain ⟨_, ss, e, _, p, _⟩ := h.ok q hq
  exact ⟨ss, e, p⟩⟩
theorem NmG.put {l : NmL} (h : NmG l) {y s : Str} (hy : wordW y ∧ PyData.strOk y = true) (hs : plainD (.str s) = true) : NmG (putL l y ([], s)) := by
  refine ⟨putL_keys h.nd, fun q hq => ?_⟩
  have new : ∃ ss : List Str, ([] : List PyData) = ss.map PyData.str ∧ ss.length ≤ 3 ∧ (∀ s ∈ ss, plainD (.str s) = true) ∧ plainD (.str s) = true := ⟨[], rfl, by decide, by simp, hs⟩
  unfold putL at hq
  split at hq
  · obtain ⟨r, hr, rfl⟩ := List.mem_map.mp hq
    split
    · rename_i e
      exact ⟨(h.ok r hr).1, new⟩
    · exact h.ok r hr
  · rcases List.mem_append.mp hq with m | m
    · exact h.ok q m
    · rw [List.mem_singleton] at m
      rw [m]
      exact ⟨hy, new⟩
/-- the sort of a name, as data -/
theorem eqv_sort {ss : List Str} {g s : Str} : PyData.eqv (.tuple [.tuple (ss.map PyData.str), .str g]) (.tuple [.tuple [], .str s]) = decide (ss = [] ∧ g = s) := by
  cases ss with
  | nil =>
    simp [PyData.eqv, PyData.eqvAll]
    by_cases e : g = s <;> simp [e]
  | cons a r => simp [PyData.eqv, PyData.eqvAll]
theorem shaped_sort {ss : List Str} {g : Str} (h : ∀ s ∈ ss, PyData.strOk s = true) (hg : PyData.strOk g = true) : SeqAt.shaped (.tuple [.tuple (ss.map PyData.str), .str g]) = true := by
  unfold SeqAt.shaped
  simp [PyData.canLay0, PyData.canLayAll0, PyData.depth, PyData.depthAll, depth_strs, lay_strs ss h, hg]
  try decide
theorem look_nodup {l : NmL} (nd : (l.map Prod.fst).Nodup) {q : Str × (List PyData × Str)} (m : q ∈ l) : l.lookup q.1 = some q.2 := by
  induction l with
  | nil => simp at m
  | cons r l ih =>
    rw [List.map_cons, List.nodup_cons] at nd
    rcases List.mem_cons.mp m with rfl | m'
    · simp [List.lookup]
    · have ne : q.1 ≠ r.1 := fun z => nd.1 (by rw [← z]; exact List.mem_map_of_mem m')
      have e : (q.1 == r.1) = false := by simpa using ne
      obtain ⟨r1, r2⟩ := r
      simp only [List.lookup]
      rw [e]
      exact ih nd.2 m'
section
variable {P : Program} {w : World} {K : PySem.W.Frag} {mg : Str → Option Value} {base : Heap} {H : Hp}
/-- the words that are boxes -/
def spLBoxes (K : PySem.W.Frag) : Sp := fun vs H Q _ => ∃ (a : Addr) (l : NmL), vs = [.ref a] ∧ NmD K H a l ∧ NmG l ∧ l.length < 64 ∧ ∀ p (ys : List Str) H', Same H H' → H p = none → H' p = some (.lst (ys.map V.str)) → ys.length ≤ l.length → (∀ y ∈ ys, l.lookup y = some ([], ("box" : Str))) → (∀ y, l.lookup y = some ([], ("box" : Str)) → y ∈ ys) → Q (.ref p) H'
theorem ok_lboxes {f : Addr} {fd : FuncData} (F : Fun K "_law_boxes" "_law_boxes" sLBoxes f fd) (mS : mg "sorted" = none) : FnOk P w K mg base CX0 1 f fd ["names_here"] (spLBoxes K) := by
  refine F.ok scLBoxes (fun vs H Q E h => ?_) (fun cdv A outer s H vs Q E hr h => ?_)
  · obtain ⟨a, l, rfl, _⟩ := h
    rfl
  · obtain ⟨a, l, rfl, hn, hG, hll, k⟩ := h
    have nd := scLBoxes.nd
    have hu := hu_of hr
    refine ⟨_, pss_one (ps_lock (ps_ret (pe_callB cr_sortedS (by rfl) mS (by decide +kernel) (pa_cons
      (pe_lc (own := [("word", 1)]) (g := gName 1) rfl nd (pi_keys (pv 0)) (blkOk_by (N := boN) (sc := defScope sLBoxes) (by decide +kernel))
        (fun _ _ _ _ _ => pg_name (i := 1) nd rfl (Or.inl rfl)) (fun _ _ _ _ _ => pts_one (pt_cmpR (show OpR _ _ (rEqD K) from op_eqD hr.units) (pe_dget hu (pv 0) (pv 1) (fun _ _ => rfl)) (pe_tup (pa_cons (pe_tup pa_nil) (pa_cons pe_str pa_nil))) (nomark _))) (fun _ _ _ _ _ => pv 1)) pa_nil)))), ?_⟩
    obtain ⟨kvs, e, hk, hv⟩ := hn
    refine ⟨a, _, e, trivial, fun od => ?_⟩
    have hL := dps_lock (o := .frz od (.dK kvs)) e hv
    have eL : (upd H a (.frz od (.dK kvs))) a = some (.frz od (.dK kvs)) := upd_same
    have back : ∀ {H' : Hp}, Same (upd H a (.frz od (.dK kvs))) H' → Same H (upd H' a (.dK kvs)) := fun {H'} z b o q => by
      by_cases ba : b = a
      · subst ba
        rw [upd_same, ← e, q]
      · rw [upd_ne ba]
        exact z _ _ (by rw [upd_ne ba]; exact q)
    have nw : ∀ p, (upd H a (.frz od (.dK kvs))) p = none → H p = none ∧ p ≠ a := fun p np => by
      have pa : p ≠ a := fun z => by rw [z, upd_same] at np; cases np
      exact ⟨by rw [upd_ne pa] at np; exact np, pa⟩
    generalize upd H a (.frz od (.dK kvs)) = H1 at hL eL back nw ⊢
    refine ⟨_, rfl, a, od, rfl, .inl ⟨kvs, eL, fun D nD => ?_⟩⟩
    have sD : ∀ {H' : Hp} {o : HO}, Same H1 H' → Same H1 (upd H' D o) := fun z b o e => by
      rw [upd_ne (ne_of_none e nD)]
      exact z _ _ e
    have ll : kvs.length = l.length := by
      have := congrArg List.length hk
      simpa using this
    refine lc_it (walk_keys (d := a) (o := od) (kvs := kvs)) (fun i H' => Same H1 H' ∧ ∃ ys : List Str, H' D = some (.lst (ys.map V.str)) ∧ ys.length ≤ i ∧ (∀ y ∈ ys, l.lookup y = some ([], ("box" : Str))) ∧ ∀ (j : Nat) (q : Str × (List PyData × Str)), j < i → l[j]? = some q → q.2 = ([], ("box" : Str)) → q.1 ∈ ys) ⟨sD (Same.refl _), [], upd_same, Nat.le_refl _, by simp, fun j q h => absurd h (Nat.not_lt_zero _)⟩ (fun i H' _ ⟨z, _⟩ => z _ _ eL) ?_ ?_
    · rintro i y H2 H2' hi ⟨z, ys, e1, hly, hys, hall⟩ ⟨rfl, k0, v0, ekv, rfl⟩
      refine ⟨rfl, ?_⟩
      obtain ⟨q, eq⟩ : ∃ q, l[i]? = some q := ⟨_, List.getElem?_eq_getElem (by rw [← ll]; exact hi)⟩
      have k1 : k0 = .inr q.1 := by
        have z1 : (kvs.map Prod.fst)[i]? = some k0 := by rw [List.getElem?_map, ekv]; rfl
        rw [hk, List.getElem?_map, eq] at z1
        exact (Option.some.inj z1).symm
      subst k1
      have hv2 : DpAll K H2' (kvs.map Prod.snd) (l.map sortOf) := dps_same z hL
      obtain ⟨hw, ss, es, _, hp1, hp2⟩ := hG.ok q (List.mem_of_getElem? eq)
      have lq : l.lookup q.1 = some q.2 := look_nodup hG.nd (List.mem_of_getElem? eq)
      rcases val_look q.1 hk hv2 with ⟨a1, _⟩ | ⟨ts', g', v, a1, a2, a3⟩
      · rw [a1] at lq
        cases lq
      rw [lq] at a1
      have a1' := Option.some.inj a1
      have ets : ts' = ss.map PyData.str := by rw [← es, a1']
      have eg : g' = q.2.2 := by rw [a1']
      subst eg
      subst ets
      refine ⟨_, rfl, _, rfl, a, v, rfl, ?_, ?_⟩
      · rw [← a2]
        exact .inl ⟨kvs, (.inr q.1 : Key), .inr ⟨od, z _ _ eL⟩, rfl, rfl⟩
      refine ⟨Nat.zero_le _, fun t1 n1 => ⟨by show 2 ≤ sizeLine; decide, fun t2 n2 => ?_⟩⟩
      have s1 := new_same (o := .tup []) n1
      have e11 : (upd H2' t1 (.tup [])) t1 = some (.tup []) := upd_same
      generalize upd H2' t1 (.tup []) = H3 at s1 e11 n2 ⊢
      have s2 := new_same (o := .tup [.ref t1, .str "box"]) n2
      have e22 : (upd H3 t2 (.tup [.ref t1, .str "box"])) t2 = some (.tup [.ref t1, .str "box"]) := upd_same
      generalize upd H3 t2 (.tup [.ref t1, .str "box"]) = H4 at s2 e22 ⊢
      have s12 := s1.trans s2
      refine ⟨.tuple [.tuple (ss.map PyData.str), .str q.2.2], .tuple [.tuple [], .str "box"], dp_same s12 a3, .tup (SqT.of e22) (.cons (.tup (SqT.of (s2 _ _ e11)) .nil) (.cons (.str _) .nil)), shaped_sort (fun s hs => plain_ok (hp1 s hs)) (plain_ok hp2), by decide +kernel, _, rfl, ?_⟩
      rw [eqv_sort]
      have z4 := z.trans s12
      have e4 := s12 _ _ e1
      refine ite2 (fun yes => ?_) (fun no => ⟨z4, ys, e4, by omega, hys, fun j q' hj e' eb => ?_⟩)
      rotate_left
      · by_cases ji : j = i
        · subst ji
          rw [eq] at e'
          cases e'
          exfalso
          apply no
          have e1 : ss = [] := by
            have := es.symm.trans (congrArg Prod.fst eb)
            exact List.map_eq_nil_iff.mp this
          exact decide_eq_true ⟨e1, congrArg Prod.snd eb⟩
        · exact hall j q' (by omega) e' eb
      obtain ⟨ess, eg⟩ := of_decide_eq_true yes
      refine ⟨_, rfl, _, e4, small1000 (by rw [List.length_map]; omega), sD z4, ys ++ [q.1], by rw [upd_same, List.map_append]; rfl, by rw [List.length_append]; simp; omega, fun y hy => ?_, fun j q' hj e' eb => ?_⟩
      rotate_left
      · by_cases ji : j = i
        · subst ji
          rw [eq] at e'
          cases e'
          simp
        · exact List.mem_append_left _ (hall j q' (by omega) e' eb)
      rcases List.mem_append.mp hy with m | m
      · exact hys y m
      · rw [List.mem_singleton] at m
        subst m
        rw [lq, a1', ess, eg]
        rfl
    · rintro H2 ⟨z, ys, e1, hly, hys, hall⟩
      refine ⟨D, ys, rfl, SqL.of e1, by omega, fun zs p perm _ np => ⟨?_, ?_⟩⟩
      · exact (upd_ne (ne_of_none (z _ _ eL) np)).trans (z _ _ eL)
      · have s2 := new_same (o := .lst (zs.map V.str)) np
        have nn := nw p (z.free np)
        refine k p zs _ (back (z.trans s2)) nn.1 (by rw [upd_ne nn.2]; exact upd_same) (by rw [perm.length_eq]; omega) (fun y hy => hys y (perm.mem_iff.mp hy)) fun y hy => ?_
        obtain ⟨j, hj⟩ := List.getElem?_of_mem (PySem.mem_of_lookup hy)
        exact perm.mem_iff.mpr (hall j _ (by have := (List.getElem?_eq_some_iff.mp hj).1; omega) hj rfl)
end
end Jd
/-! _law_leaf of law_k02. -/
namespace Jd
open PySem PySem.Spec PyProof.Rows L2 RZ Dk
abbrev sLLeaf : Stmt := Jd.top 58
abbrev leN : List Str := ["draw", "size", "names_here", "sort_here", "some", "word"]
theorem scLLeaf : FnScope leN ["draw", "size", "names_here", "sort_here"] (defScope sLLeaf) := ⟨rfl, rfl, rfl, by decide +kernel, rfl, by decide +kernel, by decide +kernel⟩
/-- a drawn term at v: of sort g, of at most m nodes, at most h deep -/
def TermAt (K : PySem.W.Frag) (H : Hp) (n : Int) (nm : NmL) (g : Str) (m h : Nat) (v : V) : Prop := ∃ dd k, Dp K H v dd ∧ TD dd ∧ Typ n nm dd g k h ∧ k ≤ m
section
variable {P : Program} {w : World} {K : PySem.W.Frag} {mg : Str → Option Value} {base : Heap} {H H' : Hp} {n : Int} {nm : NmL} {g : Str} {m h : Nat} {v : V} {d l c : Addr}
theorem TermAt.same (t : TermAt K H n nm g m h v) (s : Same H H') : TermAt K H' n nm g m h v := by
  obtain ⟨dd, k, h1, h2, h3, h4⟩ := t
  exact ⟨dd, k, dp_same s h1, h2, h3, h4⟩
theorem TermAt.but (t : TermAt K H n nm g m h v) (D : DrawAt H d l c) (B : But H H' d l) : TermAt K H' n nm g m h v := by
  obtain ⟨dd, k, h1, h2, h3, h4⟩ := t
  exact ⟨dd, k, h2.dp (fun _ _ q => but_sqT D B q) v h1, h2, h3, h4⟩
theorem TermAt.le {m' h' : Nat} (t : TermAt K H n nm g m h v) (e : m ≤ m') (e2 : h ≤ h') : TermAt K H n nm g m' h' v := by
  obtain ⟨dd, k, h1, h2, h3, h4⟩ := t
  exact ⟨dd, k, h1, h2, h3.mono e2, by omega⟩
theorem But.of {H H' : Hp} (s : Same H H') : But H H' d l := fun b o e _ _ => s b o e
/-- the sorts of names are data without lists -/
theorem NmG.td (h : NmG nm) : ∀ q ∈ nm, TD (sortOf q) := fun q hq => by
  obtain ⟨_, ss, es, hl, hp, hg⟩ := h.ok q hq
  have sm : ∀ s : Str, plainD (.str s) = true → okS s := fun s z => by
    rcases plain_in z with rfl | rfl | rfl <;> exact okS_of (by decide +kernel) (by decide +kernel)
  unfold sortOf
  rw [es]
  refine .tup (by show 2 ≤ 1000; decide) fun x hx => ?_
  rcases List.mem_cons.mp hx with rfl | hx
  · refine .tup (by rw [List.length_map]; omega) fun y hy => ?_
    obtain ⟨s, hs, rfl⟩ := List.mem_map.mp hy
    exact .str (sm s (hp s hs))
  · rw [List.mem_singleton] at hx
    subst hx
    exact .str (sm _ hg)
theorem nmD_but {a : Addr} (hn : NmD K H a nm) (hG : NmG nm) (D : DrawAt H d l c) (B : But H H' d l) (ad : a ≠ d) : NmD K H' a nm := by
  obtain ⟨kvs, e, h1, h2⟩ := hn
  obtain ⟨_, _, _, _, _, ls, cs, ed, el, _⟩ := id D
  refine ⟨kvs, B _ _ e ad (ne_of e el (by intro z; cases z)), h1, dps_map h2 fun x hx v hv => ?_⟩
  obtain ⟨q, hq, rfl⟩ := List.mem_map.mp hx
  exact (hG.td q hq).dp (fun _ _ z => but_sqT D B z) v hv
theorem new_dl {p : Addr} (D : DrawAt H d l c) (np : H p = none) : p ≠ d ∧ p ≠ l ∧ p ≠ c := by
  obtain ⟨_, _, _, _, _, ls, cs, ed, el, ec, _⟩ := D
  exact ⟨(ne_of_none ed np).symm, (ne_of_none el np).symm, (ne_of_none ec np).symm⟩
theorem t_number {i : Int} (h0 : 0 ≤ i) (h1 : i < n) {a : Addr} (e : H a = some (.tup [.str "number", .int i])) : TermAt K H n nm "num" 1 1 (.ref a) :=
  ⟨_, 1, .tup (SqT.of e) (.cons (.str _) (.cons (.int i) .nil)), .tup (by show 2 ≤ 1000; decide) (by
    intro x hx
    rcases List.mem_cons.mp hx with rfl | hx
    · exact .str (okS_of (by decide +kernel) (by decide +kernel))
    · rw [List.mem_singleton] at hx
      subst hx
      exact .int i), .number h0 (by omega), Nat.le_refl _⟩
theorem t_skip {a : Addr} (e : H a = some (.tup [.str "skip"])) : TermAt K H n nm "do" 1 1 (.ref a) :=
  ⟨_, 1, .tup (SqT.of e) (.cons (.str _) .nil), .tup (by show 1 ≤ 1000; decide) (by
    intro x hx
    rw [List.mem_singleton] at hx
    subst hx
    exact .str (okS_of (by decide +kernel) (by decide +kernel))), .skip, Nat.le_refl _⟩
theorem word_short {y : Str} (hw : wordD (.str y) = true) : y.length ≤ sizeLine := word_len hw
theorem t_name {y : Str} {a b : Addr} (hw : wordW y) (lk : nm.lookup y = some ([], g)) (eb : H b = some (.tup [])) (e : H a = some (.tup [.str "name", .str y, .ref b])) : TermAt K H n nm g 1 1 (.ref a) :=
  ⟨_, 1, .tup (SqT.of e) (.cons (.str _) (.cons (.str _) (.cons (.tup (SqT.of eb) .nil) .nil))), .tup (by show 3 ≤ 1000; decide) (by
    intro x hx
    rcases List.mem_cons.mp hx with rfl | hx
    · exact .str (okS_of (by decide +kernel) (by decide +kernel))
    · rcases List.mem_cons.mp hx with rfl | hx
      · exact .str ⟨word_short hw.1, hw.2⟩
      · rw [List.mem_singleton] at hx
        subst hx
        exact .tup (by show 0 ≤ 1000; decide) (by simp)), Typ.name (h := 0) (ss := []) (qs := []) (ks := []) hw.1 lk (by simp) rfl rfl parts_nil, Nat.le_refl _⟩
theorem t_get {a b : Addr} (t : TermAt K H n nm "box" m h (.ref b)) (e : H a = some (.tup [.str "get", .ref b])) : TermAt K H n nm "num" (1 + m) (h + 1) (.ref a) := by
  obtain ⟨dd, k, h1, h2, h3, h4⟩ := t
  refine ⟨_, 1 + k, .tup (SqT.of e) (.cons (.str _) (.cons h1 .nil)), .tup (by show 2 ≤ 1000; decide) ?_, h3.get, by omega⟩
  intro x hx
  rcases List.mem_cons.mp hx with rfl | hx
  · exact .str (okS_of (by decide +kernel) (by decide +kernel))
  · rw [List.mem_singleton] at hx
    subst hx
    exact h2
theorem t_made {y : Str} {a : Addr} {v1 v2 : V} {m2 : Nat} (hw : wordW y) (t1 : TermAt K H n nm "num" m h v1) (t2 : TermAt K H n (putL nm y ([], "num")) "do" m2 h v2) (e : H a = some (.tup [.str "made", v1, .str y, v2])) : TermAt K H n nm "box" (1 + (m + m2)) (h + 1) (.ref a) := by
  obtain ⟨dd, k, h1, h2, h3, h4⟩ := t1
  obtain ⟨dd2, k2, i1, i2, i3, i4⟩ := t2
  refine ⟨_, 1 + (k + k2), .tup (SqT.of e) (.cons (.str _) (.cons h1 (.cons (.str _) (.cons i1 .nil)))), .tup (by show 4 ≤ 1000; decide) ?_, .made hw.1 h3 i3, by omega⟩
  intro x hx
  rcases List.mem_cons.mp hx with rfl | hx
  · exact .str (okS_of (by decide +kernel) (by decide +kernel))
  · rcases List.mem_cons.mp hx with rfl | hx
    · exact h2
    · rcases List.mem_cons.mp hx with rfl | hx
      · exact .str ⟨word_short hw.1, hw.2⟩
      · rw [List.mem_singleton] at hx
        subst hx
        exact i2
end
end Jd
/-! _law_leaf of law_k02: its body. -/
namespace Jd
open PySem PySem.Spec PyProof.Rows L2 RZ Dk
section
variable {P : Program} {w : World} {K : PySem.W.Frag} {mg : Str → Option Value} {base : Heap} {H : Hp}
def Draws (K : PySem.W.Frag) (n : Int) (nm : NmL) (g : Str) (m h : Nat) (d l c : Addr) (H : Hp) (Q : VK) : Prop := ∀ v H', DrawAt H' d l c → But H H' d l → TermAt K H' n nm g m h v → Q v H'
theorem Draws.later {n : Int} {nm : NmL} {g : Str} {m h : Nat} {d l c : Addr} {H H1 : Hp} {Q : VK} (k : Draws K n nm g m h d l c H Q) (B : But H H1 d l) : Draws K n nm g m h d l c H1 Q := fun v H' D B' t => k v H' D (B.trans B') t
/-- what a drawing def is given -/
structure In0 (K : PySem.W.Frag) (H : Hp) (n : Int) (nm : NmL) (d l c a : Addr) : Prop where
  D : DrawAt H d l c
  n2 : 2 ≤ n
  n4 : n ≤ 4
  N : NmD K H a nm
  G : NmG nm
  few : nm.length < 64
  ad : a ≠ d
theorem In0.but {n : Int} {nm : NmL} {d l c a : Addr} {H H1 : Hp} (I : In0 K H n nm d l c a) (D : DrawAt H1 d l c) (B : But H H1 d l) : In0 K H1 n nm d l c a := ⟨D, I.n2, I.n4, nmD_but I.N I.G I.D B I.ad, I.G, I.few, I.ad⟩
theorem In0.same {n : Int} {nm : NmL} {d l c a : Addr} {H H1 : Hp} (I : In0 K H n nm d l c a) (s : Same H H1) : In0 K H1 n nm d l c a := ⟨I.D.same s, I.n2, I.n4, I.N.same s, I.G, I.few, I.ad⟩
def spLLeaf (K : PySem.W.Frag) : Sp := fun vs H Q _ => ∃ (d l c a : Addr) (n : Int) (nm : NmL) (g : Str), vs = [.ref d, .int n, .ref a, .str g] ∧ In0 K H n nm d l c a ∧ plainD (.str g) = true ∧ Draws K n nm g 3 2 d l c H Q
theorem boxes_ne {ys : List Str} (h : ys ≠ []) : 0 < ys.length := List.length_pos_iff.mpr h
theorem ne_eqv {ys : List Str} : (!PyData.eqv (.list (ys.map PyData.str)) (.list [])) = decide (ys ≠ []) := by
  cases ys with
  | nil => simp [PyData.eqv, PyData.eqvAll]
  | cons a r => simp [PyData.eqv, PyData.eqvAll]
theorem look_some {l : NmL} {y : Str} {x : List PyData × Str} (h : l.lookup y = some x) : (y, x) ∈ l := PySem.mem_of_lookup h
/-- behind `if some != [] and ..: return ..` -/
def U1 (K : PySem.W.Frag) (n : Int) (nm : NmL) (g : Str) (d l c a : Addr) : TS := fun D σ H1 => ∃ (So : Addr) (ys : List Str) (w5 : Option V), σ = [some (.ref d), some (.int n), some (.ref a), some (.str g), some (.ref So), w5] ∧ In0 K H1 n nm d l c a ∧ Draws K n nm g 3 2 d l c H1 D.rt ∧ So ≠ d ∧ So ≠ l ∧
  H1 So = some (.lst (ys.map V.str)) ∧ ys.length ≤ 64 ∧ (∀ y ∈ ys, nm.lookup y = some ([], g)) ∧ ∀ H4, In0 K H4 n nm d l c a → But H1 H4 d l → D.nx σ H4
/-- return ("name", _law_pick(draw, some), ()) -/
def UR (K : PySem.W.Frag) (n : Int) (nm : NmL) (g : Str) (d l c a : Addr) : TS := fun D σ H1 => ∃ (So : Addr) (ys : List Str) (w5 : Option V), σ = [some (.ref d), some (.int n), some (.ref a), some (.str g), some (.ref So), w5] ∧ In0 K H1 n nm d l c a ∧ Draws K n nm g 3 2 d l c H1 D.rt ∧ So ≠ d ∧ So ≠ l ∧
  H1 So = some (.lst (ys.map V.str)) ∧ ys.length ≤ 64 ∧ (∀ y ∈ ys, nm.lookup y = some ([], g)) ∧ ys ≠ []
/-- behind `if _law_boxes(names_here) != [] and ..: return ..` -/
def U4 (K : PySem.W.Frag) (n : Int) (nm : NmL) (d l c a : Addr) : TS := fun D σ H1 => ∃ (w3 w4 w5 : Option V), σ = [some (.ref d), some (.int n), some (.ref a), w3, w4, w5] ∧ In0 K H1 n nm d l c a ∧ Draws K n nm "num" 3 2 d l c H1 D.rt ∧ ∀ H4, In0 K H4 n nm d l c a → But H1 H4 d l → D.nx σ H4
theorem ok_lleaf {f fT fP fB : Addr} {fd fdT fdP fdB : FuncData} (F : Fun K "_law_leaf" "_law_leaf" sLLeaf f fd) (mS : mg "sorted" = none) (GT : Has P w K mg base CX0 "_law_take" 2 ["draw", "amount"] spTake fT fdT) (GP : Has P w K mg base CX0 "_law_pick" 3 ["draw", "some"] (spPick K) fP fdP) (GB : Has P w K mg base CX0 "_law_boxes" 1 ["names_here"] (spLBoxes K) fB fdB) :
    FnOk P w K mg base CX0 4 f fd ["draw", "size", "names_here", "sort_here"] (spLLeaf K) := by
  refine F.ok scLLeaf (fun vs H Q E h => ?_) (fun cdv A outer s H vs Q E hr h => ?_)
  · obtain ⟨d, l, c, a, n, nm, g, rfl, _⟩ := h
    rfl
  · obtain ⟨d, l, c, a, n, nm, g, rfl, I, hg, k⟩ := h
    have nd := scLLeaf.nd
    have hu := hu_of hr
    have hr2 := hr.mono (show 2 ≤ 3 by decide)
    have hr1 := hr.mono (show 1 ≤ 3 by decide)
    refine ⟨_, pss_cons (ps_setLc (i := 4) (own := [("word", 5)]) (g := gName 5) rfl nd rfl rfl (sw_true rfl rfl rfl (by decide +kernel)) (pi_list (pe_callB (call_sortedD rfl) (by rfl) mS (by decide +kernel) (pa_cons (pv 2) pa_nil)))
        (blkOk_by (N := leN) (sc := defScope sLLeaf) (by decide +kernel)) (fun _ _ _ _ _ => pg_name (i := 5) nd rfl (Or.inl rfl))
        (fun _ _ _ _ _ => pts_one (pt_cmpR (show OpR _ _ (rEqD K) from op_eqD hr.units) (pe_dget hu (pv 2) (pv 5) (fun _ _ => rfl)) (pe_tup (pa_cons (pe_tup pa_nil) (pa_cons (pv 3) pa_nil))) (nomark _))) (fun _ _ _ _ _ => pv 5))
      (pss_cons (PS.imp (u := U1 K n nm g d l c a) (ps_if (PW.pt (pw_and (pt_cmpR (op_neD hr.units) (pv 4) (pe_lst pa_nil) (nomark _)) (pw_and1 (PW.pt (pw_or (pt_cmpR op_eq (pv 3) pe_str (nomark _)) (pw_or1 (pt_cmpR op_eq (pe_call GT.g hr2 rfl GT.m GT.kp GT.b .nil pass0 (pa_cons (pv 0) (pa_cons pe_int pa_nil))) pe_int (nomark _))))))))
        (pss_one (PS.imp (u := UR K n nm g d l c a) (ps_ret (pe_tup (pa_cons pe_str (pa_cons (pe_call GP.g hr rfl GP.m GP.kp GP.b .nil pass0 (pa_cons (pv 0) (pa_cons (pv 4) pa_nil))) (pa_cons (pe_tup pa_nil) pa_nil))))) ?iR)) pss_nil) ?i1)
      (pss_cons (ps_if (pt_cmpR op_eq (pv 3) pe_str (nomark _)) (pss_one (ps_ret (pe_tup (pa_cons pe_str (pa_cons (pe_tup (pa_cons pe_str (pa_cons (pe_call GT.g hr2 rfl GT.m GT.kp GT.b .nil pass0 (pa_cons (pv 0) (pa_cons (pv 1) pa_nil))) pa_nil))) (pa_cons pe_str (pa_cons (pe_tup (pa_cons pe_str pa_nil)) pa_nil))))))) pss_nil)
      (pss_cons (ps_if (pt_cmpR op_eq (pv 3) pe_str (nomark _)) (pss_one (ps_ret (pe_tup (pa_cons pe_str pa_nil)))) pss_nil)
      (pss_cons (PS.imp (u := U4 K n nm d l c a) (ps_if (PW.pt (pw_and (pt_cmpR (op_neD hr.units) (pe_call GB.g hr1 rfl GB.m GB.kp GB.b .nil pass0 (pa_cons (pv 2) pa_nil)) (pe_lst pa_nil) (nomark _)) (pw_and1 (pt_cmpR op_eq (pe_call GT.g hr2 rfl GT.m GT.kp GT.b .nil pass0 (pa_cons (pv 0) (pa_cons pe_int pa_nil))) pe_int (nomark _)))))
        (pss_one (ps_ret (pe_tup (pa_cons pe_str (pa_cons (pe_tup (pa_cons pe_str (pa_cons (pe_call GP.g hr rfl GP.m GP.kp GP.b .nil pass0 (pa_cons (pv 0) (pa_cons (pe_call GB.g hr1 rfl GB.m GB.kp GB.b .nil pass0 (pa_cons (pv 2) pa_nil)) pa_nil))) (pa_cons (pe_tup pa_nil) pa_nil)))) pa_nil))))) pss_nil) ?i4)
      (pss_one (ps_ret (pe_tup (pa_cons pe_str (pa_cons (pe_call GT.g hr2 rfl GT.m GT.kp GT.b .nil pass0 (pa_cons (pv 0) (pa_cons (pv 1) pa_nil))) pa_nil))))))))), ?main⟩
    case main =>
      obtain ⟨kvs, e, hk, hv⟩ := id I.N
      have ll : kvs.length = nm.length := by
        have := congrArg List.length hk
        simpa using this
      -- some = [..]
      refine ⟨_, rfl, a, kvs, nm.map Prod.fst, rfl, .inl e, by rw [hk, List.map_map]; rfl, by rw [List.length_map]; exact I.few, fun ws S perm _ nS => ?_⟩
      have s1 := new_same (o := .lst (ws.map V.str)) nS
      have eS : (upd H S (.lst (ws.map V.str))) S = some (.lst (ws.map V.str)) := upd_same
      generalize upd H S (.lst (ws.map V.str)) = H1 at s1 eS ⊢
      refine ⟨S, rfl, ⟨_, SqL.of eS⟩, fun So nSo => ?_⟩
      have sD : ∀ {H' : Hp} {o : HO}, Same H1 H' → Same H1 (upd H' So o) := fun z b o e => by
        rw [upd_ne (ne_of_none e nSo)]
        exact z _ _ e
      refine lc_list (K := K) (a := S) (xs := ws.map V.str) (fun i H' => Same H1 H' ∧ ∃ ys : List Str, H' So = some (.lst (ys.map V.str)) ∧ ys.length ≤ i ∧ ∀ y ∈ ys, nm.lookup y = some ([], g)) ⟨sD (Same.refl _), [], upd_same, Nat.le_refl _, by simp⟩ (fun i H' _ ⟨z, _⟩ => SqL.of (z _ _ eS)) ?_ ?_
      · rintro i y H2 hy ⟨z, ys, e1, hly, hys⟩
        rw [List.getElem?_map] at hy
        cases ew : ws[i]? with
        | none => rw [ew] at hy; cases hy
        | some x =>
        rw [ew] at hy
        obtain rfl := Option.some.inj hy
        have hi := (List.getElem?_eq_some_iff.mp ew).1
        obtain ⟨q, hq, rfl⟩ := List.mem_map.mp (perm.mem_iff.mp (List.mem_of_getElem? ew))
        have lw : ws.length = nm.length := by rw [perm.length_eq, List.length_map]
        have few := I.few
        refine ⟨rfl, ?_⟩
        have z0 := s1.trans z
        have hv2 : DpAll K H2 (kvs.map Prod.snd) (nm.map sortOf) := dps_same z0 hv
        obtain ⟨_, ss, es, _, hp1, hp2⟩ := I.G.ok q hq
        have lq : nm.lookup q.1 = some q.2 := look_nodup I.G.nd hq
        rcases val_look q.1 hk hv2 with ⟨a1, _⟩ | ⟨ts', g', v, a1, a2, a3⟩
        · rw [a1] at lq
          cases lq
        rw [lq] at a1
        have a1' := Option.some.inj a1
        have ets : ts' = ss.map PyData.str := by rw [← es, a1']
        have eg : g' = q.2.2 := by rw [a1']
        subst eg
        subst ets
        refine ⟨_, rfl, _, rfl, a, v, rfl, ?_, ?_⟩
        · rw [← a2]
          exact .inl ⟨kvs, (.inr q.1 : Key), .inl (z0 _ _ e), rfl, rfl⟩
        refine ⟨Nat.zero_le _, fun t1 n1 => ⟨_, rfl, by show 2 ≤ sizeLine; decide, fun t2 n2 => ?_⟩⟩
        have s3 := new_same (o := .tup []) n1
        have e11 : (upd H2 t1 (.tup [])) t1 = some (.tup []) := upd_same
        generalize upd H2 t1 (.tup []) = H3 at s3 e11 n2 ⊢
        have s4 := new_same (o := .tup [.ref t1, .str g]) n2
        have e22 : (upd H3 t2 (.tup [.ref t1, .str g])) t2 = some (.tup [.ref t1, .str g]) := upd_same
        generalize upd H3 t2 (.tup [.ref t1, .str g]) = H4 at s4 e22 ⊢
        have s34 := s3.trans s4
        refine ⟨.tuple [.tuple (ss.map PyData.str), .str q.2.2], .tuple [.tuple [], .str g], dp_same s34 a3, .tup (SqT.of e22) (.cons (.tup (SqT.of (s4 _ _ e11)) .nil) (.cons (.str _) .nil)), shaped_sort (fun s hs => plain_ok (hp1 s hs)) (plain_ok hp2), shaped_sort (ss := []) (by simp) (plain_ok hg), _, rfl, ?_⟩
        rw [eqv_sort]
        have z4 := z.trans s34
        have e4 := s34 _ _ e1
        refine ite2 (fun yes => ?_) (fun _ => ⟨z4, ys, e4, by omega, hys⟩)
        obtain ⟨ess, eg⟩ := of_decide_eq_true yes
        refine ⟨_, rfl, _, e4, small1000 (by rw [List.length_map]; omega), sD z4, ys ++ [q.1], by rw [upd_same, List.map_append]; rfl, by rw [List.length_append]; simp; omega, fun y hy => ?_⟩
        rcases List.mem_append.mp hy with m | m
        · exact hys y m
        · rw [List.mem_singleton] at m
          subst m
          rw [lq, a1', ess, eg]
          rfl
      rintro H2 ⟨z, ys, e1, hly, hys⟩
      have few := I.few
      have lw : ws.length = nm.length := by rw [perm.length_eq, List.length_map]
      rw [List.length_map] at hly
      have s2 := s1.trans z
      have I2 := I.same s2
      have k2 : Draws K n nm g 3 2 d l c H2 Q := k.later (But.of s2)
      have hgood : ∀ y, nm.lookup y = some ([], g) ∨ nm.lookup y = some ([], ("box" : Str)) → wordD (.str y) = true := fun y h => by
        rcases h with h | h <;> exact (I.G.ok _ (look_some h)).1.1.1
      have okY : ∀ y ∈ ys, PyData.strOk y = true := fun y hy => (I.G.ok _ (look_some (hys y hy))).1.2
      have SoN := new_dl (I.D.same s1) nSo
      clear k
      refine ⟨So, ys, _, rfl, I2, k2, SoN.1, SoN.2.1, e1, by omega, hys, fun H4 I4 B4 => ?_⟩
      have k4 := k2.later B4
      -- if sort_here == "box"
      refine ⟨_, rfl, rfl, _, rfl, ?_⟩
      rw [dec_str]
      by_cases gb : g = "box"
      · subst gb
        refine ⟨_, rfl, _, rfl, d, l, c, n, rfl, by have := I4.n2; omega, by have := I4.n4; omega, I4.D, fun i H5 i0 i1 D5 B5 => ?_⟩
        have k5 := k4.later B5
        refine ⟨by show 2 ≤ sizeLine; decide, fun t1 n1 => ⟨by show 1 ≤ sizeLine; decide, fun t2 n2 => ⟨by show 4 ≤ sizeLine; decide, fun t3 n3 => ?_⟩⟩⟩
        have s6 := new_same (o := .tup [.str "number", .int i]) n1
        have e6 : (upd H5 t1 (.tup [.str "number", .int i])) t1 = some (.tup [.str "number", .int i]) := upd_same
        generalize upd H5 t1 (.tup [.str "number", .int i]) = H6 at s6 e6 n2 n3 ⊢
        have s7 := new_same (o := .tup [.str "skip"]) n2
        have e7 : (upd H6 t2 (.tup [.str "skip"])) t2 = some (.tup [.str "skip"]) := upd_same
        generalize upd H6 t2 (.tup [.str "skip"]) = H7 at s7 e7 n3 ⊢
        have s8 := new_same (o := .tup [.str "made", .ref t1, .str "w", .ref t2]) n3
        have s68 := (s6.trans s7).trans s8
        exact k5 _ _ (D5.same s68) (But.of s68) (t_made (m := 1) (h := 1) (m2 := 1) (by decide +kernel) (t_number i0 i1 (s8 _ _ (s7 _ _ e6))) (t_skip (s8 _ _ e7)) upd_same)
      rw [beq_false_of_ne gb]
      refine iteF ?_
      -- if sort_here == "do"
      refine ⟨_, rfl, rfl, _, rfl, ?_⟩
      rw [dec_str]
      by_cases gd : g = "do"
      · subst gd
        refine ⟨by show 1 ≤ sizeLine; decide, fun t1 n1 => ?_⟩
        have s5 := new_same (o := .tup [.str "skip"]) n1
        exact k4 _ _ (I4.D.same s5) (But.of s5) ((t_skip upd_same).le (by decide) (by decide))
      rw [beq_false_of_ne gd]
      refine iteF ?_
      obtain rfl : g = "num" := by
        rcases plain_in hg with z | z | z
        · exact z
        · exact absurd z gd
        · exact absurd z gb
      refine ⟨_, _, _, rfl, I4, k4, fun H5 I5 B5 => ?_⟩
      have k5 := k4.later B5
      refine ⟨_, rfl, _, rfl, d, l, c, n, rfl, by have := I5.n2; omega, by have := I5.n4; omega, I5.D, fun i H6 i0 i1 D6 B6 => ?_⟩
      refine ⟨by show 2 ≤ sizeLine; decide, fun t1 n1 => ?_⟩
      have s7 := new_same (o := .tup [.str "number", .int i]) n1
      exact k5.later B6 _ _ (D6.same s7) (But.of s7) ((t_number i0 i1 upd_same).le (by decide) (by decide))
    case iR =>
      rintro D σ H1 ⟨So, ys, w5, rfl, I1, k1, So1, So2, eSo, hly, hys, hne⟩
      refine ⟨_, rfl, _, rfl, d, l, c, So, ys.map V.str, rfl, eSo, So1, So2, by rw [List.length_map]; exact boxes_ne hne, by rw [List.length_map]; omega, I1.D, fun i x H2 hx D2 B2 => ?_⟩
      rw [List.getElem?_map] at hx
      cases ey : ys[i]? with
      | none => rw [ey] at hx; cases hx
      | some y =>
      rw [ey] at hx
      obtain rfl := Option.some.inj hx
      have hy := hys y (List.mem_of_getElem? ey)
      refine ⟨Nat.zero_le _, fun t1 n1 => ⟨by show 3 ≤ sizeLine; decide, fun t2 n2 => ?_⟩⟩
      have s3 := new_same (o := .tup []) n1
      have e3 : (upd H2 t1 (.tup [])) t1 = some (.tup []) := upd_same
      generalize upd H2 t1 (.tup []) = H3 at s3 e3 n2 ⊢
      have s4 := new_same (o := .tup [.str "name", .str y, .ref t1]) n2
      exact k1.later B2 _ _ (D2.same (s3.trans s4)) (But.of (s3.trans s4)) ((t_name (I1.G.ok _ (look_some hy)).1.1 hy (s4 _ _ e3) upd_same).le (by decide) (by decide))
    case i1 =>
      rintro D σ H1 ⟨So, ys, w5, rfl, I1, k1, So1, So2, eSo, hly, hys, kn⟩
      have okY : ∀ y ∈ ys, PyData.strOk y = true := fun y hy => (I1.G.ok _ (look_some (hys y hy))).1.2
      refine ⟨_, rfl, Nat.zero_le _, fun t0 n0 => ?_⟩
      have s3 := new_same (o := .lst []) n0
      have e3 : (upd H1 t0 (.lst [])) t0 = some (.lst []) := upd_same
      have eSo3 := s3 _ _ eSo
      generalize upd H1 t0 (.lst []) = H3 at s3 e3 eSo3 ⊢
      have I3 := I1.same s3
      have B3 := But.of (d := d) (l := l) s3
      refine ⟨.list (ys.map PyData.str), .list [], .lst (SqL.of eSo3) (dp_strs ys), .lst (SqL.of e3) .nil, shaped_strs ys okY, by decide +kernel, _, rfl, ?_⟩
      rw [ne_eqv]
      refine ite2 (fun yes => ?_) (fun _ => iteF (kn _ I3 B3))
      have hne : ys ≠ [] := of_decide_eq_true yes
      refine ⟨_, rfl, rfl, _, rfl, ?_⟩
      rw [dec_str]
      by_cases gb : g = "box"
      · subst gb
        exact iteT (iteT ⟨So, ys, w5, rfl, I3, k1.later B3, So1, So2, eSo3, hly, hys, hne⟩)
      rw [beq_false_of_ne gb]
      refine iteF ⟨_, rfl, d, l, c, 2, rfl, by decide, by decide, I3.D, fun i H4 i0 i1 D4 B4 => ?_⟩
      have I4 := I3.but D4 B4
      have B34 := B3.trans B4
      have eSo4 : H4 So = some (.lst (ys.map V.str)) := B4 _ _ eSo3 So1 So2
      refine ⟨rfl, _, rfl, ite2 (fun _ => ⟨So, ys, w5, rfl, I4, k1.later B34, So1, So2, eSo4, hly, hys, hne⟩) (fun _ => kn _ I4 B34)⟩
    case i4 =>
      rintro D σ H1 ⟨w3, w4, w5, rfl, I1, k1, kn⟩
      refine ⟨_, rfl, a, nm, rfl, I1.N, I1.G, I1.few, fun p ys H2 s2 np ep _ hys _ => ⟨Nat.zero_le _, fun t0 n0 => ?_⟩⟩
      have okY : ∀ y ∈ ys, PyData.strOk y = true := fun y hy => (I1.G.ok _ (look_some (hys y hy))).1.2
      have s3 := new_same (o := .lst []) n0
      have e3 : (upd H2 t0 (.lst [])) t0 = some (.lst []) := upd_same
      have ep3 := s3 _ _ ep
      generalize upd H2 t0 (.lst []) = H3 at s3 e3 ep3 ⊢
      have s13 := s2.trans s3
      have I3 := I1.same s13
      have B3 := But.of (d := d) (l := l) s13
      refine ⟨.list (ys.map PyData.str), .list [], .lst (SqL.of ep3) (dp_strs ys), .lst (SqL.of e3) .nil, shaped_strs ys okY, by decide +kernel, _, rfl, ?_⟩
      rw [ne_eqv]
      refine ite2 (fun yes => ?_) (fun _ => iteF (kn _ I3 B3))
      refine ⟨_, rfl, d, l, c, 2, rfl, by decide, by decide, I3.D, fun i H4 i0 i1 D4 B4 => ?_⟩
      have I4 := I3.but D4 B4
      have B34 := B3.trans B4
      refine ⟨rfl, _, rfl, ite2 (fun _ => ?_) (fun _ => kn _ I4 B34)⟩
      have k4 := k1.later B34
      refine ⟨_, rfl, _, rfl, a, nm, rfl, I4.N, I4.G, I4.few, fun p2 zs H5 s5 np2 ep2 hlz hzs hza => ?_⟩
      have hne : zs ≠ [] := fun z => by
        cases ys with
        | nil => exact absurd rfl (of_decide_eq_true yes)
        | cons y0 _ =>
          have := hza y0 (hys y0 (by simp))
          rw [z] at this
          simp at this
      have pd := new_dl I4.D np2
      have I5 := I4.same s5
      have few := I5.few
      refine ⟨d, l, c, p2, zs.map V.str, rfl, ep2, pd.1, pd.2.1, by rw [List.length_map]; exact boxes_ne hne, by rw [List.length_map]; omega, I5.D, fun i x H6 hx D6 B6 => ?_⟩
      rw [List.getElem?_map] at hx
      cases ey : zs[i]? with
      | none => rw [ey] at hx; cases hx
      | some y =>
      rw [ey] at hx
      obtain rfl := Option.some.inj hx
      have hy := hzs y (List.mem_of_getElem? ey)
      refine ⟨Nat.zero_le _, fun t1 n1 => ⟨by show 3 ≤ sizeLine; decide, fun t2 n2 => ⟨by show 2 ≤ sizeLine; decide, fun t3 n3 => ?_⟩⟩⟩
      have s7 := new_same (o := .tup []) n1
      have e7 : (upd H6 t1 (.tup [])) t1 = some (.tup []) := upd_same
      generalize upd H6 t1 (.tup []) = H7 at s7 e7 n2 n3 ⊢
      have s8 := new_same (o := .tup [.str "name", .str y, .ref t1]) n2
      have e8 : (upd H7 t2 (.tup [.str "name", .str y, .ref t1])) t2 = some (.tup [.str "name", .str y, .ref t1]) := upd_same
      generalize upd H7 t2 (.tup [.str "name", .str y, .ref t1]) = H8 at s8 e8 n3 ⊢
      have s9 := new_same (o := .tup [.str "get", .ref t2]) n3
      have s79 := (s7.trans s8).trans s9
      have tn : TermAt K (upd H8 t3 (.tup [.str "get", .ref t2])) n nm "box" 1 1 (.ref t2) := t_name (I4.G.ok _ (look_some hy)).1.1 hy (s9 _ _ (s8 _ _ e7)) (s9 _ _ e8)
      exact k4.later ((But.of s5).trans B6) _ _ (D6.same s79) (But.of s79) ((t_get tn upd_same).le (by decide) (by decide))
end
end Jd
/-! _law_call of law_k02. -/
namespace Jd
open PySem PySem.Spec PyProof.Rows L2 RZ Dk
abbrev sLCall : Stmt := Jd.top 59
abbrev clN : List Str := ["draw", "size", "names_here", "sort_here", "deep", "some", "word", "part"]
theorem scLCall : FnScope clN ["draw", "size", "names_here", "sort_here", "deep"] (defScope sLCall) := ⟨rfl, rfl, rfl, by decide +kernel, rfl, by decide +kernel, by decide +kernel⟩
/-- the most nodes of a term drawn at a depth -/
def mostN : Nat → Nat
  | 0 => 3
  | e + 1 => 1 + 3 * mostN e
section
variable {P : Program} {w : World} {K : PySem.W.Frag} {mg : Str → Option Value} {base : Heap} {H : Hp}
theorem terms_list {n : Int} {nm : NmL} {m h : Nat} : ∀ {ss : List Str} {vs : List V}, vs.length = ss.length → (∀ (j : Nat) (v : V) (s : Str), vs[j]? = some v → ss[j]? = some s → TermAt K H n nm s m h v) → ∃ (qs : List PyData) (ks : List Nat), DpAll K H vs qs ∧ (∀ q ∈ qs, TD q) ∧ PartsOk n nm h qs ss ks ∧ qs.length = ss.length ∧ ks.length = ss.length ∧ ks.sum ≤ ss.length * m
  | [], [], _, _ => ⟨[], [], .nil, by simp, parts_nil, rfl, rfl, by simp⟩
  | [], _ :: _, h, _ => by cases h
  | _ :: _, [], h, _ => by cases h
  | s :: ss, v :: vs, hl, t => by
    obtain ⟨qs, ks, h1, h2, h3, h4, h5, h6⟩ := terms_list (ss := ss) (vs := vs) (by simpa using hl) fun j v' s' a b => t (j + 1) v' s' a b
    obtain ⟨q, k, g1, g2, g3, g4⟩ := t 0 v s rfl rfl
    refine ⟨q :: qs, k :: ks, .cons g1 h1, fun x hx => ?_, parts_cons g3 h3, by simp [h4], by simp [h5], ?_⟩
    · rcases List.mem_cons.mp hx with rfl | hx
      · exact g2
      · exact h2 x hx
    · rw [List.sum_cons, List.length_cons, Nat.add_mul]
      omega
theorem t_call {n : Int} {nm : NmL} {m h : Nat} {y g : Str} {ss : List Str} {vs : List V} {a b : Addr} (hw : wordW y) (lk : nm.lookup y = some (ss.map PyData.str, g)) (hp : ∀ s ∈ ss, plainD (.str s) = true) (l3 : ss.length ≤ 3) (lv : vs.length = ss.length)
    (t : ∀ (j : Nat) (v : V) (s : Str), vs[j]? = some v → ss[j]? = some s → TermAt K H n nm s m h v) (eb : H b = some (.tup vs)) (e : H a = some (.tup [.str "name", .str y, .ref b])) : TermAt K H n nm g (1 + 3 * m) (h + 1) (.ref a) := by
  obtain ⟨qs, ks, h1, h2, h3, h4, h5, h6⟩ := terms_list lv t
  refine ⟨_, 1 + ks.sum, .tup (SqT.of e) (.cons (.str _) (.cons (.str _) (.cons (.tup (SqT.of eb) h1) .nil))), .tup (by show 3 ≤ 1000; decide) ?_, .name hw.1 lk hp h4 h5 h3, ?_⟩
  · intro x hx
    rcases List.mem_cons.mp hx with rfl | hx
    · exact .str (okS_of (by decide +kernel) (by decide +kernel))
    · rcases List.mem_cons.mp hx with rfl | hx
      · exact .str ⟨word_short hw.1, hw.2⟩
      · rw [List.mem_singleton] at hx
        subst hx
        exact .tup (by omega) h2
  · have : ss.length * m ≤ 3 * m := Nat.mul_le_mul_right m l3
    omega
theorem off_sqT {p b : Addr} {xs ys : List V} {o : HO} (e : H p = some (.lst xs)) (h : SqT K H b ys) : SqT K (upd H p o) b ys := by
  rcases h with (h | ⟨u, h⟩) | h
  · exact .inl (.inl (by rw [upd_ne (ne_of h e (by intro z; cases z))]; exact h))
  · exact .inl (.inr ⟨u, by rw [upd_ne (ne_of h e (by intro z; cases z))]; exact h⟩)
  · exact .inr h
theorem TermAt.off {n : Int} {nm : NmL} {g : Str} {m h : Nat} {v : V} {p : Addr} {xs : List V} {o : HO} (t : TermAt K H n nm g m h v) (e : H p = some (.lst xs)) : TermAt K (upd H p o) n nm g m h v := by
  obtain ⟨dd, k, h1, h2, h3, h4⟩ := t
  exact ⟨dd, k, h2.dp (fun _ _ q => off_sqT e q) v h1, h2, h3, h4⟩
theorem In0.off {n : Int} {nm : NmL} {d l c a p : Addr} {xs : List V} {o : HO} (I : In0 K H n nm d l c a) (e : H p = some (.lst xs)) (h1 : p ≠ d) (h2 : p ≠ l) (h3 : p ≠ c) : In0 K (upd H p o) n nm d l c a := by
  obtain ⟨kvs, ea, hk, hv⟩ := I.N
  refine ⟨I.D.off h1 h2 h3, I.n2, I.n4, ⟨kvs, by rw [upd_ne (ne_of ea e (by intro z; cases z))]; exact ea, hk, dps_map hv fun x hx v hv => ?_⟩, I.G, I.few, I.ad⟩
  obtain ⟨q, hq, rfl⟩ := List.mem_map.mp hx
  exact (I.G.td q hq).dp (fun _ _ z => off_sqT e z) v hv
def spLTerm (K : PySem.W.Frag) (e : Nat) : Sp := fun vs H Q _ => ∃ (d l c a : Addr) (n : Int) (nm : NmL) (g : Str), vs = [.ref d, .int n, .ref a, .str g, .int (e : Nat)] ∧ In0 K H n nm d l c a ∧ nm.length + e ≤ 60 ∧ plainD (.str g) = true ∧ Draws K n nm g (mostN e) (e + 2) d l c H Q
def spLCall (K : PySem.W.Frag) (e : Nat) : Sp := fun vs H Q _ => ∃ (d l c a : Addr) (n : Int) (nm : NmL) (g : Str), vs = [.ref d, .int n, .ref a, .str g, .int ((e + 1 : Nat) : Int)] ∧ In0 K H n nm d l c a ∧ nm.length + (e + 1) ≤ 60 ∧ plainD (.str g) = true ∧ (∀ H', In0 K H' n nm d l c a → But H H' d l → Q .non H') ∧ Draws K n nm g (mostN (e + 1)) (e + 3) d l c H Q
theorem args_eqv {ss : List Str} : (!PyData.eqv (.tuple (ss.map PyData.str)) (.tuple [])) = decide (ss ≠ []) := by
  cases ss with
  | nil => simp [PyData.eqv, PyData.eqvAll]
  | cons a r => simp [PyData.eqv, PyData.eqvAll]
theorem shaped_args {ss : List Str} (h : ∀ s ∈ ss, PyData.strOk s = true) : SeqAt.shaped (.tuple (ss.map PyData.str)) = true := by
  unfold SeqAt.shaped
  simp [PyData.canLay0, PyData.depth, depth_strs, lay_strs ss h]
theorem eqv_nil {ys : List Str} : PyData.eqv (.list (ys.map PyData.str)) (.list []) = decide (ys = []) := by
  cases ys with
  | nil => simp [PyData.eqv, PyData.eqvAll]
  | cons a r => simp [PyData.eqv, PyData.eqvAll]
theorem ok_lcall {f fP fT : Addr} {fd fdP fdT : FuncData} {e : Nat} (F : Fun K "_law_call" "_law_call" sLCall f fd) (mS : mg "sorted" = none) (mTu : mg "tuple" = none) (GP : Has P w K mg base CX0 "_law_pick" 3 ["draw", "some"] (spPick K) fP fdP)
    (GT : Has P w K mg base CX0 "_law_term" (5 + 2 * e) ["draw", "size", "names_here", "sort_here", "deep"] (spLTerm K e) fT fdT) : FnOk P w K mg base CX0 (5 + 2 * e + 1) f fd ["draw", "size", "names_here", "sort_here", "deep"] (spLCall K e) := by
  refine F.ok scLCall (fun vs H Q E h => ?_) (fun cdv A outer s H vs Q E hr h => ?_)
  · obtain ⟨d, l, c, a, n, nm, g, rfl, _⟩ := h
    rfl
  · obtain ⟨d, l, c, a, n, nm, g, rfl, I, h60, hg, kn, k⟩ := h
    have nd := scLCall.nd
    have hu := hu_of hr
    have hr3 := hr.mono (show 3 ≤ 5 + 2 * e by omega)
    refine ⟨_, pss_cons (ps_setLc (i := 5) (own := [("word", 6)]) (g := gName 6) rfl nd rfl rfl (sw_true rfl rfl rfl (by decide +kernel)) (pi_list (pe_callB (call_sortedD rfl) (by rfl) mS (by decide +kernel) (pa_cons (pv 2) pa_nil)))
        (blkOk_by (N := clN) (sc := defScope sLCall) (by decide +kernel)) (fun _ _ _ _ _ => pg_name (i := 6) nd rfl (Or.inl rfl))
        (fun _ _ _ _ _ => pts_one (PW.pt (pw_and (pt_cmpR (show OpR _ _ (rNeD K) from op_neD hr.units) (pe_ix (show IxR _ (rIxT K) from ix_tup) (pe_dget hu (pv 2) (pv 6) (fun _ _ => rfl)) pe_int (fun _ _ => rfl)) (pe_tup pa_nil) (nomark _))
          (pw_and1 (pt_cmpR op_eq (pe_ix (show IxR _ (rIxT K) from ix_tup) (pe_dget hu (pv 2) (pv 6) (fun _ _ => rfl)) pe_int (fun _ _ => rfl)) (pv 3) (nomark _)))))) (fun _ _ _ _ _ => pv 6))
      (pss_cons (ps_if (pt_cmpR (op_eqD hr.units) (pv 5) (pe_lst pa_nil) (nomark _)) (pss_one (ps_ret pe_non)) pss_nil)
      (pss_cons (ps_set (i := 6) nd rfl (Or.inl rfl) (pe_call GP.g hr3 rfl GP.m GP.kp GP.b .nil pass0 (pa_cons (pv 0) (pa_cons (pv 5) pa_nil))))
      (pss_one (ps_ret (pe_tup (pa_cons pe_str (pa_cons (pv 6) (pa_cons (pe_callTy call_tuple_of (by rfl) mTu (by decide +kernel) (pa_cons
        (pe_lc (own := [("part", 7)]) (g := gName 7) rfl nd (pi_tup (pe_ix ix_tup (pe_dget hu (pv 2) (pv 6) (fun _ _ => rfl)) pe_int (fun _ _ => rfl))) (blkOk_by (N := clN) (sc := defScope sLCall) (by decide +kernel))
          (fun _ _ _ _ _ => pg_name (i := 7) nd rfl (Or.inl rfl)) (fun _ _ _ _ _ => pts_nil)
          (fun _ _ _ _ _ => pe_call GT.g hr rfl GT.m GT.kp GT.b .nil pass0 (pa_cons (pv 0) (pa_cons (pv 1) (pa_cons (pv 2) (pa_cons (pv 7) (pa_cons (pe_op op_sub (pv 4) pe_int) pa_nil))))))) pa_nil)) pa_nil))))))))
    , ?_⟩
    obtain ⟨kvs, ed, hk, hv⟩ := id I.N
    have few := I.few
    -- the name's entry at a heap where the names stand
    have entry : ∀ q ∈ nm, ∀ H', In0 K H' n nm d l c a → ∃ (v : V) (b2 b3 : Addr) (us : List V) (ss : List Str), DGet H' a (.str q.1) (some v) ∧ v = .ref b2 ∧ SqT K H' b2 [.ref b3, .str q.2.2] ∧ SqT K H' b3 us ∧ DpAll K H' us (ss.map PyData.str) ∧ q.2.1 = ss.map PyData.str ∧ ss.length ≤ 3 ∧ (∀ s ∈ ss, plainD (.str s) = true) := fun q hq H' I' => by
      obtain ⟨kvs', e', hk', hv'⟩ := I'.N
      obtain ⟨_, ss, es, l3, hp1, _⟩ := I'.G.ok q hq
      have lq : nm.lookup q.1 = some q.2 := look_nodup I'.G.nd hq
      rcases val_look q.1 hk' hv' with ⟨a1, _⟩ | ⟨ts', g', v, a1, a2, a3⟩
      · rw [a1] at lq
        cases lq
      rw [lq] at a1
      have a1' := Option.some.inj a1
      have ets : ts' = ss.map PyData.str := by rw [← es, a1']
      have eg : g' = q.2.2 := by rw [a1']
      subst eg
      subst ets
      obtain ⟨⟩ | ⟨⟩ | ⟨⟩ | ⟨⟩ | ⟨⟩ | @⟨b2, zs, _, hb2, hs2⟩ := a3
      obtain _ | @⟨z0, _, _, _, g0, hs2⟩ := hs2
      obtain _ | @⟨z1, _, _, _, g1, hs3⟩ := hs2
      cases hs3
      cases g1
      obtain ⟨⟩ | ⟨⟩ | ⟨⟩ | ⟨⟩ | ⟨⟩ | @⟨b3, us, _, hb3, hs4⟩ := g0
      exact ⟨.ref b2, b2, b3, us, ss, by rw [← a2]; exact DGet.k (k := (.inr q.1 : Key)) e', rfl, hb2, hb3, hs4, es, l3, hp1⟩
    refine ⟨_, rfl, a, kvs, nm.map Prod.fst, rfl, .inl ed, by rw [hk, List.map_map]; rfl, by rw [List.length_map]; exact I.few, fun ws S perm _ nS => ?_⟩
    have s1 := new_same (o := .lst (ws.map V.str)) nS
    have eS : (upd H S (.lst (ws.map V.str))) S = some (.lst (ws.map V.str)) := upd_same
    generalize upd H S (.lst (ws.map V.str)) = H1 at s1 eS ⊢
    refine ⟨S, rfl, ⟨_, SqL.of eS⟩, fun So nSo => ?_⟩
    have sD : ∀ {H' : Hp} {o : HO}, Same H1 H' → Same H1 (upd H' So o) := fun z b o e => by
      rw [upd_ne (ne_of_none e nSo)]
      exact z _ _ e
    refine lc_list (K := K) (a := S) (xs := ws.map V.str) (fun i H' => Same H1 H' ∧ ∃ ys : List Str, H' So = some (.lst (ys.map V.str)) ∧ ys.length ≤ i ∧ ∀ y ∈ ys, ∃ q ∈ nm, q.1 = y ∧ q.2.2 = g) ⟨sD (Same.refl _), [], upd_same, Nat.le_refl _, by simp⟩ (fun i H' _ ⟨z, _⟩ => SqL.of (z _ _ eS)) ?_ ?_
    · rintro i y H2 hy ⟨z, ys, e1, hly, hys⟩
      rw [List.getElem?_map] at hy
      cases ew : ws[i]? with
      | none => rw [ew] at hy; cases hy
      | some x =>
      rw [ew] at hy
      obtain rfl := Option.some.inj hy
      have hi := (List.getElem?_eq_some_iff.mp ew).1
      obtain ⟨q, hq, rfl⟩ := List.mem_map.mp (perm.mem_iff.mp (List.mem_of_getElem? ew))
      have lw : ws.length = nm.length := by rw [perm.length_eq, List.length_map]
      refine ⟨rfl, ?_⟩
      have z0 := s1.trans z
      obtain ⟨v, b2, b3, us, ss, dg, rfl, hb2, hb3, hus, es, l3, hp1⟩ := entry q hq H2 (I.same z0)
      refine ⟨_, rfl, _, rfl, a, _, rfl, dg, b2, _, 0, _, rfl, rfl, hb2, atI_nat (j := 0) rfl, Nat.zero_le _, fun t1 n1 => ?_⟩
      have s3 := new_same (o := .tup []) n1
      have e11 : (upd H2 t1 (.tup [])) t1 = some (.tup []) := upd_same
      generalize upd H2 t1 (.tup []) = H3 at s3 e11 ⊢
      refine ⟨.tuple (ss.map PyData.str), .tuple [], .tup (sqT_same s3 hb3) (dps_same s3 hus), .tup (SqT.of e11) .nil, shaped_args (fun s hs => plain_ok (hp1 s hs)), by decide +kernel, _, rfl, ?_⟩
      have z3 := z.trans s3
      have e3 := s3 _ _ e1
      refine ite2 (fun _ => ?_) (fun _ => iteF ⟨z3, ys, e3, by omega, hys⟩)
      obtain ⟨v, b2, b3, us, ss, dg, rfl, hb2, hb3, hus, es, l3, hp1⟩ := entry q hq H3 (I.same (z0.trans s3))
      refine ⟨_, rfl, _, rfl, a, _, rfl, dg, b2, _, 1, _, rfl, rfl, hb2, atI_nat (j := 1) rfl, _, rfl, rfl, _, rfl, ?_⟩
      rw [dec_str]
      by_cases eg : q.2.2 = g
      · rw [beq_iff_eq.mpr eg]
        refine iteT ?_
        refine ⟨_, rfl, _, e3, small1000 (by rw [List.length_map]; omega), sD z3, ys ++ [q.1], by rw [upd_same, List.map_append]; rfl, by rw [List.length_append]; simp; omega, fun y hy => ?_⟩
        rcases List.mem_append.mp hy with m | m
        · exact hys y m
        · rw [List.mem_singleton] at m
          exact ⟨q, hq, m.symm, eg⟩
      · rw [beq_false_of_ne eg]
        exact iteF ⟨z3, ys, e3, by omega, hys⟩
    rintro H2 ⟨z, ys, e1, hly, hys⟩
    have lw : ws.length = nm.length := by rw [perm.length_eq, List.length_map]
    rw [List.length_map] at hly
    have s2 := s1.trans z
    have okY : ∀ y ∈ ys, PyData.strOk y = true := fun y hy => by
      obtain ⟨q, hq, rfl, _⟩ := hys y hy
      exact (I.G.ok q hq).1.2
    have SoN := new_dl (I.D.same s1) nSo
    refine ⟨_, rfl, Nat.zero_le _, fun t0 n0 => ?_⟩
    have s3 := new_same (o := .lst []) n0
    have e3 : (upd H2 t0 (.lst [])) t0 = some (.lst []) := upd_same
    have eSo := s3 _ _ e1
    generalize upd H2 t0 (.lst []) = H3 at s3 e3 eSo ⊢
    have s03 := s2.trans s3
    have I3 := I.same s03
    refine ⟨.list (ys.map PyData.str), .list [], .lst (SqL.of eSo) (dp_strs ys), .lst (SqL.of e3) .nil, shaped_strs ys okY, by decide +kernel, _, rfl, ?_⟩
    rw [eqv_nil]
    refine ite2 (fun _ => kn _ I3 (But.of s03)) (fun no => ?_)
    have hne : ys ≠ [] := fun z => no (decide_eq_true z)
    refine ⟨_, rfl, _, rfl, d, l, c, So, ys.map V.str, rfl, eSo, SoN.1, SoN.2.1, by rw [List.length_map]; exact boxes_ne hne, by rw [List.length_map]; omega, I3.D, fun i x H4 hx D4 B4 => ?_⟩
    rw [List.getElem?_map] at hx
    cases ey : ys[i]? with
    | none => rw [ey] at hx; cases hx
    | some y =>
    rw [ey] at hx
    obtain rfl := Option.some.inj hx
    obtain ⟨q, hq, rfl, eg⟩ := hys y (List.mem_of_getElem? ey)
    have I4 := I3.but D4 B4
    have k4 := k.later ((But.of s03).trans B4)
    obtain ⟨v, b2, b3, us, ss, dg, rfl, hb2, hb3, hus, es, l3, hp1⟩ := entry q hq H4 I4
    obtain rfl : us = ss.map V.str := strs_eq hus
    refine ⟨_, rfl, _, rfl, _, rfl, a, _, rfl, dg, b2, _, 0, _, rfl, rfl, hb2, atI_nat (j := 0) rfl, b3, rfl, ⟨_, hb3⟩, fun Dd nDd => ?_⟩
    have DdN := new_dl D4 nDd
    have s5 := new_same (o := .lst []) nDd
    refine lc_tup (K := K) (a := b3) (xs := ss.map V.str) (fun i H' => In0 K H' n nm d l c a ∧ But H4 H' d l ∧ ∃ vs : List V, H' Dd = some (.lst vs) ∧ vs.length = i ∧ ∀ (j : Nat) (v : V) (s : Str), vs[j]? = some v → ss[j]? = some s → TermAt K H' n nm s (mostN e) (e + 2) v) ⟨I4.same s5, But.of s5, [], upd_same, rfl, fun j v s h => by simp at h⟩ (fun i H' _ ⟨_, z, _⟩ => but_sqT D4 z hb3) ?_ ?_
    · rintro i y H5 hy ⟨I5, B5, vs, e5, hlv, ht⟩
      rw [List.getElem?_map] at hy
      cases es1 : ss[i]? with
      | none => rw [es1] at hy; cases hy
      | some s1 =>
      rw [es1] at hy
      obtain rfl := Option.some.inj hy
      have hi := (List.getElem?_eq_some_iff.mp es1).1
      refine ⟨rfl, ?_⟩
      refine ⟨_, rfl, _, rfl, _, rfl, _, rfl, _, rfl, _, _, rfl, rfl, d, l, c, a, n, nm, s1, ?_, I5, by omega, hp1 s1 (List.mem_of_getElem? es1), fun v H6 D6 B6 t6 => ?_⟩
      · show [V.ref d, V.int n, V.ref a, V.str s1, V.int (((e + 1 : Nat) : Int) - 1)] = _
        rw [show (((e + 1 : Nat) : Int) - 1) = ((e : Nat) : Int) by omega]
      have e6 := B6 _ _ e5 DdN.1 DdN.2.1
      have I6 := I5.but D6 B6
      refine ⟨vs, e6, small1000 (by omega), I6.off e6 DdN.1 DdN.2.1 DdN.2.2, fun b o hb h1 h2 => ?_, vs ++ [v], upd_same, by rw [List.length_append, hlv]; rfl, fun j v' s' a b => ?_⟩
      · rw [upd_ne (ne_of_none hb nDd)]
        exact B5.trans B6 b o hb h1 h2
      · by_cases jl : j < vs.length
        · rw [List.getElem?_append_left jl] at a
          exact ((ht j v' s' a b).but I5.D B6).off e6
        · have ej : j = vs.length := by
            have := (List.getElem?_eq_some_iff.mp a).1
            simp at this
            omega
          subst ej
          rw [hlv, es1] at b
          cases b
          have a' : some v = some v' := by simpa using a
          cases a'
          exact t6.off e6
    · rintro H5 ⟨I5, B5, vs, e5, hlv, ht⟩
      rw [List.length_map] at hlv
      refine ⟨Dd, vs, rfl, .inl ⟨SqL.of e5, fun t1 n1 => ⟨by show 3 ≤ sizeLine; decide, fun t2 n2 => ?_⟩⟩⟩
      have s6 := new_same (o := .tup vs) n1
      have e6 : (upd H5 t1 (.tup vs)) t1 = some (.tup vs) := upd_same
      generalize upd H5 t1 (.tup vs) = H6 at s6 e6 n2 ⊢
      have s7 := new_same (o := .tup [.str "name", .str q.1, .ref t1]) n2
      have s67 := s6.trans s7
      refine k4.later B5 _ _ (I5.D.same s67) (But.of s67) (t_call (m := mostN e) (h := e + 2) (I.G.ok q hq).1.1 ?_ hp1 l3 hlv (fun j v s a b => (ht j v s a b).same s67) (s7 _ _ e6) upd_same)
      rw [look_nodup I.G.nd hq, ← es, ← eg]
end
end Jd
/-! terms of each form, drawn. -/
namespace Jd
open PySem PySem.Spec PyProof.Rows L2 RZ Dk
section
variable {K : PySem.W.Frag} {H : Hp} {n : Int} {nm : NmL} {g : Str} {m h : Nat}
theorem t_word {x : Str} {a : Addr} {vs : List V} {qs : List PyData} {k : Nat} (hx : x.length ≤ 1000 ∧ x ≠ "other") (hd : DpAll K H vs qs) (td : ∀ q ∈ qs, TD q) (few : qs.length ≤ 900) (e : H a = some (.tup (.str x :: vs))) (ty : Typ n nm (.tuple (.str x :: qs)) g k h) (km : k ≤ m) : TermAt K H n nm g m h (.ref a) :=
  ⟨_, k, .tup (SqT.of e) (.cons (.str _) hd), .tup (by rw [List.length_cons]; omega) (by
    intro y hy
    rcases List.mem_cons.mp hy with rfl | hy
    · exact .str (okS_of hx.1 hx.2)
    · exact td y hy), ty, km⟩
theorem t_not {a : Addr} {v : V} (t : TermAt K H n nm "num" m h v) (e : H a = some (.tup [.str "not", v])) : TermAt K H n nm "num" (1 + m) (h + 1) (.ref a) := by
  obtain ⟨q, k, h1, h2, h3, h4⟩ := t
  exact t_word (by decide +kernel) (.cons h1 .nil) (by simpa using h2) (by show 1 ≤ 900; decide) e h3.not (by omega)
theorem t_claim {a : Addr} {v : V} (t : TermAt K H n nm "num" m h v) (e : H a = some (.tup [.str "claim", v])) : TermAt K H n nm "do" (1 + m) (h + 1) (.ref a) := by
  obtain ⟨q, k, h1, h2, h3, h4⟩ := t
  exact t_word (by decide +kernel) (.cons h1 .nil) (by simpa using h2) (by show 1 ≤ 900; decide) e h3.claim (by omega)
theorem t_never {a : Addr} (e : H a = some (.tup [.str "never", .str "do"])) : TermAt K H n nm "do" 1 1 (.ref a) :=
  t_word (by decide +kernel) (.cons (.str _) .nil) (by simp; exact .str (okS_of (by decide +kernel) (by decide +kernel))) (by show 1 ≤ 900; decide) e (Typ.never (h := 0) (by decide +kernel)) (Nat.le_refl _)
theorem t_two {x w1 w2 g' : Str} {a : Addr} {v1 v2 : V} (hx : x.length ≤ 1000 ∧ x ≠ "other") (ty : ∀ {q1 q2 : PyData} {k1 k2 : Nat}, Typ n nm q1 w1 k1 h → Typ n nm q2 w2 k2 h → Typ n nm (.tuple [.str x, q1, q2]) g' (1 + (k1 + k2)) (h + 1)) (t1 : TermAt K H n nm w1 m h v1) (t2 : TermAt K H n nm w2 m h v2) (e : H a = some (.tup [.str x, v1, v2])) : TermAt K H n nm g' (1 + (m + m)) (h + 1) (.ref a) := by
  obtain ⟨q, k, h1, h2, h3, h4⟩ := t1
  obtain ⟨q', k', i1, i2, i3, i4⟩ := t2
  exact t_word hx (.cons h1 (.cons i1 .nil)) (by simp; exact ⟨h2, i2⟩) (by show 2 ≤ 900; decide) e (ty h3 i3) (by omega)
theorem t_then {a : Addr} {v1 v2 : V} (hs : endB g = true) (t1 : TermAt K H n nm "do" m h v1) (t2 : TermAt K H n nm g m h v2) (e : H a = some (.tup [.str "then", v1, v2])) : TermAt K H n nm g (1 + (m + m)) (h + 1) (.ref a) := t_two (by decide +kernel) (fun a b => .then hs a b) t1 t2 e
theorem t_while {a : Addr} {v1 v2 : V} (t1 : TermAt K H n nm "num" m h v1) (t2 : TermAt K H n nm "do" m h v2) (e : H a = some (.tup [.str "while", v1, v2])) : TermAt K H n nm "do" (1 + (m + m)) (h + 1) (.ref a) := t_two (by decide +kernel) (fun a b => .while a b) t1 t2 e
theorem t_set {a : Addr} {v1 v2 : V} (t1 : TermAt K H n nm "box" m h v1) (t2 : TermAt K H n nm "num" m h v2) (e : H a = some (.tup [.str "set", v1, v2])) : TermAt K H n nm "do" (1 + (m + m)) (h + 1) (.ref a) := t_two (by decide +kernel) (fun a b => .set a b) t1 t2 e
theorem op_len {x : Str} (hx : opB x = true) : x.length ≤ 1000 ∧ x ≠ "other" := by
  simp only [opB, Bool.or_eq_true, decide_eq_true_eq] at hx
  rcases hx with ((rfl | rfl) | rfl) | rfl <;> decide +kernel
theorem t_op {x : Str} {a : Addr} {v1 v2 : V} (hx : opB x = true) (t1 : TermAt K H n nm "num" m h v1) (t2 : TermAt K H n nm "num" m h v2) (e : H a = some (.tup [.str x, v1, v2])) : TermAt K H n nm "num" (1 + (m + m)) (h + 1) (.ref a) := t_two (op_len hx) (fun a b => .op hx a b) t1 t2 e
theorem t_if {a : Addr} {v1 v2 v3 : V} (hs : endB g = true) (t1 : TermAt K H n nm "num" m h v1) (t2 : TermAt K H n nm g m h v2) (t3 : TermAt K H n nm g m h v3) (e : H a = some (.tup [.str "if", v1, v2, v3])) : TermAt K H n nm g (1 + 3 * m) (h + 1) (.ref a) := by
  obtain ⟨q, k, h1, h2, h3, h4⟩ := t1
  obtain ⟨q', k', i1, i2, i3, i4⟩ := t2
  obtain ⟨q2, k2, j1, j2, j3, j4⟩ := t3
  exact t_word (by decide +kernel) (.cons h1 (.cons i1 (.cons j1 .nil))) (by simp; exact ⟨h2, i2, j2⟩) (by show 3 ≤ 900; decide) e (.if hs h3 i3 j3) (by omega)
theorem t_new {y : Str} {i : Int} {a : Addr} {v : V} (hw : wordW y) (h0 : 0 ≤ i) (h1 : i < n) (hs : endB g = true) (t : TermAt K H n (putL nm y ([], "box")) g m h v) (e : H a = some (.tup [.str "new", .str y, .int i, v])) : TermAt K H n nm g (1 + m) (h + 1) (.ref a) := by
  obtain ⟨q, k, i1, i2, i3, i4⟩ := t
  exact t_word (by decide +kernel) (.cons (.str _) (.cons (.int _) (.cons i1 .nil))) (by simp; exact ⟨.str ⟨word_short hw.1, hw.2⟩, .int i, i2⟩) (by show 3 ≤ 900; decide) e (.new hw.1 h0 (by omega) hs i3) (by omega)
theorem TermAt.ref {v : V} (t : TermAt K H n nm g m h v) : ∃ p, v = .ref p := by
  obtain ⟨q, k, h1, _, h3, _⟩ := t
  cases h3
  cases h1
  exact ⟨_, rfl⟩
theorem mostN_ge : ∀ e, 3 ≤ mostN e
  | 0 => Nat.le_refl _
  | e + 1 => by
    have := mostN_ge e
    show 3 ≤ 1 + 3 * mostN e
    omega
end
end Jd
/-! _law_term of law_k02. -/
namespace Jd
open PySem PySem.Spec PyProof.Rows L2 RZ Dk
abbrev sLTerm : Stmt := Jd.top 60
abbrev tmN : List Str := ["draw", "size", "names_here", "sort_here", "deep", "way", "word", "inner", "made_here", "test_here", "arms", "k"]
theorem scLTerm : FnScope tmN ["draw", "size", "names_here", "sort_here", "deep"] (defScope sLTerm) := ⟨rfl, rfl, rfl, by decide +kernel, rfl, by decide +kernel, by decide +kernel⟩
section
variable {P : Program} {w : World} {K : PySem.W.Frag} {mg : Str → Option Value} {base : Heap} {H : Hp}
theorem PE.imp {X : Cx} {e : Expr} {t u : TE} (h : PE X e t) (i : ∀ σ H Q, u σ H Q → t σ H Q) : PE X e u := ⟨fun pins s σ H Q I q => h.run pins s σ H Q I (i σ H Q q)⟩
/-- dict(list(names_here.items()) + [(word, ((), s))]) -/
def tIn (K : PySem.W.Frag) (s : Str) : TE := fun σ H Q => ∃ (a : Addr) (nm : NmL) (y : Str), σ[2]? = some (some (.ref a)) ∧ σ[6]? = some (some (.str y)) ∧ NmD K H a nm ∧ (nm.map Prod.fst).Nodup ∧ nm.length < 64 ∧ ∀ b H', Same H H' → H b = none → NmD K H' b (putL nm y ([], s)) → Q (.ref b) H'
def FrT (d : Addr) (n : Int) (a : Addr) (g : Str) (e : Nat) (way : Int) (w6 w7 w8 w9 w10 w11 : Option V) : L2.St := [some (.ref d), some (.int n), some (.ref a), some (.str g), some (.int (e : Nat)), some (.int way), w6, w7, w8, w9, w10, w11]
/-- a statement of the body: what stands ahead of it, what stands behind it -/
def UT (K : PySem.W.Frag) (n : Int) (nm : NmL) (g : Str) (e : Nat) (d l c a : Addr) (Pre Post : Int → Prop) : TS := fun D σ H1 => ∃ (way : Int) (w6 w7 w8 w9 w10 w11 : Option V), σ = FrT d n a g e way w6 w7 w8 w9 w10 w11 ∧ Pre way ∧ In0 K H1 n nm d l c a ∧ Draws K n nm g (mostN e) (e + 2) d l c H1 D.rt ∧
  ∀ H4 w6 w7 w8 w9 w10 w11, Post way → In0 K H4 n nm d l c a → But H1 H4 d l → D.nx (FrT d n a g e way w6 w7 w8 w9 w10 w11) H4
/-- made_here = .. -/
def U3 (K : PySem.W.Frag) (n : Int) (nm : NmL) (g : Str) (e : Nat) (d l c a : Addr) : TS := fun D σ H1 => ∃ (way : Int) (w6 w7 w8 w9 w10 w11 : Option V), σ = FrT d n a g e way w6 w7 w8 w9 w10 w11 ∧ e ≠ 0 ∧ In0 K H1 n nm d l c a ∧
  ∀ H4 v, (v = .non ∨ v ≠ .non ∧ TermAt K H4 n nm g (mostN e) (e + 2) v) → In0 K H4 n nm d l c a → But H1 H4 d l → D.nx (FrT d n a g e way w6 w7 (some v) w9 w10 w11) H4
/-- return made_here, if it is one -/
def UM (K : PySem.W.Frag) (n : Int) (nm : NmL) (g : Str) (e : Nat) (d l c a : Addr) : TS := fun D σ H1 => ∃ (way : Int) (w6 w7 w9 w10 w11 : Option V) (v : V), σ = FrT d n a g e way w6 w7 (some v) w9 w10 w11 ∧ (v = .non ∨ (v ≠ .non ∧ D.rt v H1)) ∧ In0 K H1 n nm d l c a ∧ (v = .non → D.nx σ H1)
def spLTermP (K : PySem.W.Frag) : Nat → Sp
  | 0 => spNever
  | e + 1 => spLTerm K e
def spLCallP (K : PySem.W.Frag) : Nat → Sp
  | 0 => spNever
  | e + 1 => spLCall K e
theorem term_key {e : Nat} {n : Int} {nm : NmL} {g : Str} {d l c a : Addr} {Q : VK} {E : XK} (I : In0 K H n nm d l c a) (h60 : nm.length + e ≤ 60) (hg : plainD (.str g) = true) (k : ∀ v H', In0 K H' n nm d l c a → But H H' d l → TermAt K H' n nm g (mostN e) (e + 2) v → Q v H') :
    spLTerm K e [.ref d, .int n, .ref a, .str g, .int (((e + 1 : Nat) : Int) - 1)] H Q E := by
  refine ⟨d, l, c, a, n, nm, g, ?_, I, h60, hg, fun v H' D B t => k v H' (I.but D B) B t⟩
  rw [show (((e + 1 : Nat) : Int) - 1) = ((e : Nat) : Int) by omega]
theorem pair_len {α β : Type} {R : α → β → Prop} {xs : List α} {ys : List β} (h : Paired R xs ys) : xs.length = ys.length := by
  induction h with
  | nil => rfl
  | cons _ _ ih => rw [List.length_cons, List.length_cons, ih]
theorem pair_map {α β : Type} {R S : α → β → Prop} {xs : List α} {ys : List β} (h : Paired R xs ys) (f : ∀ a b, R a b → S a b) : Paired S xs ys := by
  induction h with
  | nil => exact .nil
  | cons a _ ih => exact .cons (f _ _ a) ih
theorem pair_app {α β : Type} {R : α → β → Prop} {xs : List α} {ys : List β} {x : α} {y : β} (h : Paired R xs ys) (r : R x y) : Paired R (xs ++ [x]) (ys ++ [y]) := by
  induction h with
  | nil => exact .cons r .nil
  | cons a _ ih => exact .cons a ih
theorem ok_lterm {f fT fP fL fC : Addr} {fd fdT fdP fdL fdC : FuncData} {e : Nat} (F : Fun K "_law_term" "_law_term" sLTerm f fd) (mF : mg "_law_term" = some (.ref f)) (bF : Binds K fd ["draw", "size", "names_here", "sort_here", "deep"] []) (mDi : mg "dict" = none) (mLi : mg "list" = none) (mRg : mg "range" = none)
    (GT : Has P w K mg base CX0 "_law_take" 2 ["draw", "amount"] spTake fT fdT) (GP : Has P w K mg base CX0 "_law_pick" 3 ["draw", "some"] (spPick K) fP fdP) (GL : Has P w K mg base CX0 "_law_leaf" 4 ["draw", "size", "names_here", "sort_here"] (spLLeaf K) fL fdL)
    (GC : Has P w K mg base CX0 "_law_call" (4 + 2 * e) ["draw", "size", "names_here", "sort_here", "deep"] (spLCallP K e) fC fdC) (GR : FnOk P w K mg base CX0 (3 + 2 * e) f fd ["draw", "size", "names_here", "sort_here", "deep"] (spLTermP K e)) :
    FnOk P w K mg base CX0 (5 + 2 * e) f fd ["draw", "size", "names_here", "sort_here", "deep"] (spLTerm K e) := by
  have e5 : 5 + 2 * e = (4 + 2 * e) + 1 := by omega
  rw [e5]
  refine F.ok scLTerm (fun vs H Q E h => ?_) (fun cdv A outer s H vs Q E hr h => ?_)
  · obtain ⟨d, l, c, a, n, nm, g, rfl, _⟩ := h
    rfl
  · obtain ⟨d, l, c, a, n, nm, g, rfl, I, h60, hg, k⟩ := h
    have nd := scLTerm.nd
    have hu := hu_of hr
    have hr4 := hr.mono (show 4 ≤ 4 + 2 * e by omega)
    have hr3 := hr.mono (show 3 ≤ 4 + 2 * e by omega)
    have hr2 := hr.mono (show 2 ≤ 4 + 2 * e by omega)
    have hrR := hr.mono (show 3 + 2 * e ≤ 4 + 2 * e by omega)
    refine ⟨_, pss_cons (ps_set (i := 5) nd rfl (Or.inl rfl) (pe_call GT.g hr2 rfl GT.m GT.kp GT.b .nil pass0 (pa_cons (pv 0) (pa_cons pe_int pa_nil))))
      (pss_cons (PS.imp (u := UT K n nm g e d l c a (fun way => 0 ≤ way) (fun way => e ≠ 0 ∧ ¬ (g = "box" ∧ way < 10))) (ps_if (PW.pt (pw_or (pt_cmpR op_eq (pv 4) pe_int (nomark _)) (pw_or (pt_cmpR op_lt (pv 5) pe_int (nomark _)) (pw_or1 (PW.pt (pw_and (pt_cmpR op_eq (pv 3) pe_str (nomark _)) (pw_and1 (pt_cmpR op_lt (pv 5) pe_int (nomark _)))))))))
          (pss_one (PS.imp (u := UT K n nm g e d l c a (fun _ => True) (fun _ => False)) (ps_ret (pe_call GL.g hr4 rfl GL.m GL.kp GL.b .nil pass0 (pa_cons (pv 0) (pa_cons (pv 1) (pa_cons (pv 2) (pa_cons (pv 3) pa_nil)))))) ?iL)) pss_nil) ?i1)
      (pss_cons (PS.imp (u := UT K n nm g e d l c a (fun _ => e ≠ 0) (fun _ => g ≠ "box")) (ps_if (pt_cmpR op_eq (pv 3) pe_str (nomark _))
          (pss_cons (ps_set (i := 6) nd rfl (Or.inl rfl) (pe_call GP.g hr3 rfl GP.m GP.kp GP.b .nil pass0 (pa_cons (pv 0) (pa_cons (pe_lst (pa_cons pe_str (pa_cons pe_str pa_nil))) pa_nil))))
          (pss_cons (ps_set (i := 7) nd rfl (Or.inl rfl) (PE.imp (u := tIn K "num") (pe_callTy (call_dictP rfl) (by rfl) mDi (by decide +kernel) (pa_cons (pe_op op_cat (LiI.pe_listItems rfl (pv 2) (by rfl) mLi (by decide +kernel)) (pe_lst (pa_cons (pe_tup (pa_cons (pv 6) (pa_cons (pe_tup (pa_cons (pe_tup pa_nil) (pa_cons pe_str pa_nil))) pa_nil))) pa_nil))) pa_nil)) ?in1))
          (pss_one (ps_ret (pe_tup (pa_cons pe_str (pa_cons (pe_call GR hrR rfl mF F.kp bF .nil pass0 (pa_cons (pv 0) (pa_cons (pv 1) (pa_cons (pv 2) (pa_cons pe_str (pa_cons (pe_op op_sub (pv 4) pe_int) pa_nil)))))) (pa_cons (pv 6) (pa_cons (pe_call GR hrR rfl mF F.kp bF .nil pass0 (pa_cons (pv 0) (pa_cons (pv 1) (pa_cons (pv 7) (pa_cons pe_str (pa_cons (pe_op op_sub (pv 4) pe_int) pa_nil)))))) pa_nil))))))))) pss_nil) ?i2)
      (pss_cons (PS.imp (u := U3 K n nm g e d l c a) (ps_set (i := 8) nd rfl (Or.inl rfl) (pe_ifExp (pt_cmpR op_lt (pv 5) pe_int (nomark _)) (pe_call GC.g hr rfl GC.m GC.kp GC.b .nil pass0 (pa_cons (pv 0) (pa_cons (pv 1) (pa_cons (pv 2) (pa_cons (pv 3) (pa_cons (pv 4) pa_nil)))))) pe_non)) ?i3)
      (pss_cons (PS.imp (u := UM K n nm g e d l c a) (ps_if (pt_cmpR op_notN (pv 8) pe_non (nomark _)) (pss_one (ps_ret (pv 8))) pss_nil) ?iM)
      (pss_cons (PS.imp (u := UT K n nm g e d l c a (fun _ => e ≠ 0 ∧ endB g = true) (fun _ => True)) (ps_if (pt_cmpR op_eq (pv 5) pe_int (nomark _))
          (pss_cons (ps_par (i := 9) (j := 10) rfl nd rfl rfl (by decide) rfl rfl (pa_cons (pe_call GR hrR rfl mF F.kp bF .nil pass0 (pa_cons (pv 0) (pa_cons (pv 1) (pa_cons (pv 2) (pa_cons pe_str (pa_cons (pe_op op_sub (pv 4) pe_int) pa_nil))))))
              (pa_cons (pe_lc (own := [("k", 11)]) (g := gName 11) rfl nd (pi_range1 (by rfl) mRg (pa_cons pe_int pa_nil)) (blkOk_by (N := tmN) (sc := defScope sLTerm) (by decide +kernel)) (fun _ _ _ _ _ => pg_name (i := 11) nd rfl (Or.inl rfl)) (fun _ _ _ _ _ => pts_nil)
                (fun _ _ _ _ _ => pe_call GR hrR rfl mF F.kp bF .nil pass0 (pa_cons (pv 0) (pa_cons (pv 1) (pa_cons (pv 2) (pa_cons (pv 3) (pa_cons (pe_op op_sub (pv 4) pe_int) pa_nil))))))) pa_nil)) (by rfl))
          (pss_one (ps_ret (pe_tup (pa_cons pe_str (pa_cons (pv 9) (pa_cons (pe_ix ix_list (pv 10) pe_int (fun _ _ => rfl)) (pa_cons (pe_ix ix_list (pv 10) pe_int (fun _ _ => rfl)) pa_nil)))))))) pss_nil) ?i5)
      (pss_cons (PS.imp (u := UT K n nm g e d l c a (fun _ => e ≠ 0 ∧ endB g = true) (fun _ => True)) (ps_if (pt_cmpR op_lt (pv 5) pe_int (nomark _))
          (pss_one (ps_ret (pe_tup (pa_cons pe_str (pa_cons (pe_call GR hrR rfl mF F.kp bF .nil pass0 (pa_cons (pv 0) (pa_cons (pv 1) (pa_cons (pv 2) (pa_cons pe_str (pa_cons (pe_op op_sub (pv 4) pe_int) pa_nil)))))) (pa_cons (pe_call GR hrR rfl mF F.kp bF .nil pass0 (pa_cons (pv 0) (pa_cons (pv 1) (pa_cons (pv 2) (pa_cons (pv 3) (pa_cons (pe_op op_sub (pv 4) pe_int) pa_nil)))))) pa_nil)))))) pss_nil) ?i6)
      (pss_cons (PS.imp (u := UT K n nm g e d l c a (fun _ => e ≠ 0 ∧ endB g = true) (fun _ => True)) (ps_if (pt_cmpR op_eq (pv 5) pe_int (nomark _))
          (pss_cons (ps_set (i := 6) nd rfl (Or.inl rfl) (pe_call GP.g hr3 rfl GP.m GP.kp GP.b .nil pass0 (pa_cons (pv 0) (pa_cons (pe_lst (pa_cons pe_str (pa_cons pe_str (pa_cons pe_str pa_nil)))) pa_nil))))
          (pss_cons (ps_set (i := 7) nd rfl (Or.inl rfl) (PE.imp (u := tIn K "box") (pe_callTy (call_dictP rfl) (by rfl) mDi (by decide +kernel) (pa_cons (pe_op op_cat (LiI.pe_listItems rfl (pv 2) (by rfl) mLi (by decide +kernel)) (pe_lst (pa_cons (pe_tup (pa_cons (pv 6) (pa_cons (pe_tup (pa_cons (pe_tup pa_nil) (pa_cons pe_str pa_nil))) pa_nil))) pa_nil))) pa_nil)) ?in2))
          (pss_one (ps_ret (pe_tup (pa_cons pe_str (pa_cons (pv 6) (pa_cons (pe_call GT.g hr2 rfl GT.m GT.kp GT.b .nil pass0 (pa_cons (pv 0) (pa_cons (pv 1) pa_nil))) (pa_cons (pe_call GR hrR rfl mF F.kp bF .nil pass0 (pa_cons (pv 0) (pa_cons (pv 1) (pa_cons (pv 7) (pa_cons (pv 3) (pa_cons (pe_op op_sub (pv 4) pe_int) pa_nil)))))) pa_nil))))))))) pss_nil) ?i7)
      (pss_cons (PS.imp (u := UT K n nm g e d l c a (fun _ => e ≠ 0) (fun _ => g ≠ "num")) (ps_if (pt_cmpR op_eq (pv 3) pe_str (nomark _))
          (pss_cons (PS.imp (u := UT K n nm g e d l c a (fun _ => e ≠ 0 ∧ g = "num") (fun _ => True)) (ps_if (pt_cmpR op_eq (pv 5) pe_int (nomark _)) (pss_one (ps_ret (pe_tup (pa_cons pe_str (pa_cons (pe_call GR hrR rfl mF F.kp bF .nil pass0 (pa_cons (pv 0) (pa_cons (pv 1) (pa_cons (pv 2) (pa_cons pe_str (pa_cons (pe_op op_sub (pv 4) pe_int) pa_nil)))))) pa_nil))))) pss_nil) ?i8a)
          (pss_cons (PS.imp (u := UT K n nm g e d l c a (fun _ => e ≠ 0 ∧ g = "num") (fun _ => True)) (ps_if (PW.pt (pw_and (pt_cmpR op_eq (pv 5) pe_int (nomark _)) (pw_and1 (pt_cmpR op_eq (pe_call GT.g hr2 rfl GT.m GT.kp GT.b .nil pass0 (pa_cons (pv 0) (pa_cons pe_int pa_nil))) pe_int (nomark _))))) (pss_one (ps_ret (pe_tup (pa_cons pe_str (pa_cons (pe_call GR hrR rfl mF F.kp bF .nil pass0 (pa_cons (pv 0) (pa_cons (pv 1) (pa_cons (pv 2) (pa_cons pe_str (pa_cons (pe_op op_sub (pv 4) pe_int) pa_nil)))))) pa_nil))))) pss_nil) ?i8b)
          (pss_one (PS.imp (u := UT K n nm g e d l c a (fun _ => e ≠ 0 ∧ g = "num") (fun _ => False)) (ps_ret (pe_tup (pa_cons (pe_call GP.g hr3 rfl GP.m GP.kp GP.b .nil pass0 (pa_cons (pv 0) (pa_cons (pe_lst (pa_cons pe_str (pa_cons pe_str (pa_cons pe_str (pa_cons pe_str pa_nil))))) pa_nil))) (pa_cons (pe_call GR hrR rfl mF F.kp bF .nil pass0 (pa_cons (pv 0) (pa_cons (pv 1) (pa_cons (pv 2) (pa_cons pe_str (pa_cons (pe_op op_sub (pv 4) pe_int) pa_nil)))))) (pa_cons (pe_call GR hrR rfl mF F.kp bF .nil pass0 (pa_cons (pv 0) (pa_cons (pv 1) (pa_cons (pv 2) (pa_cons pe_str (pa_cons (pe_op op_sub (pv 4) pe_int) pa_nil)))))) pa_nil))))) ?i8c)))) pss_nil) ?i8)
      (pss_cons (PS.imp (u := UT K n nm g e d l c a (fun _ => e ≠ 0 ∧ g = "do") (fun _ => True)) (ps_if (pt_cmpR op_eq (pv 5) pe_int (nomark _)) (pss_one (ps_ret (pe_tup (pa_cons pe_str (pa_cons (pe_call GR hrR rfl mF F.kp bF .nil pass0 (pa_cons (pv 0) (pa_cons (pv 1) (pa_cons (pv 2) (pa_cons pe_str (pa_cons (pe_op op_sub (pv 4) pe_int) pa_nil)))))) (pa_cons (pe_call GR hrR rfl mF F.kp bF .nil pass0 (pa_cons (pv 0) (pa_cons (pv 1) (pa_cons (pv 2) (pa_cons pe_str (pa_cons (pe_op op_sub (pv 4) pe_int) pa_nil)))))) pa_nil)))))) pss_nil) ?i9)
      (pss_cons (PS.imp (u := UT K n nm g e d l c a (fun _ => e ≠ 0 ∧ g = "do") (fun _ => True)) (ps_if (pt_cmpR op_eq (pv 5) pe_int (nomark _)) (pss_one (ps_ret (pe_ifExp (pt_cmpR op_eq (pe_call GT.g hr2 rfl GT.m GT.kp GT.b .nil pass0 (pa_cons (pv 0) (pa_cons pe_int pa_nil))) pe_int (nomark _))
          (pe_tup (pa_cons pe_str (pa_cons (pe_call GR hrR rfl mF F.kp bF .nil pass0 (pa_cons (pv 0) (pa_cons (pv 1) (pa_cons (pv 2) (pa_cons pe_str (pa_cons (pe_op op_sub (pv 4) pe_int) pa_nil)))))) pa_nil))) (pe_tup (pa_cons pe_str (pa_cons pe_str pa_nil)))))) pss_nil) ?i10)
      (pss_one (PS.imp (u := UT K n nm g e d l c a (fun _ => e ≠ 0 ∧ g = "do") (fun _ => False)) (ps_ret (pe_tup (pa_cons pe_str (pa_cons (pe_call GR hrR rfl mF F.kp bF .nil pass0 (pa_cons (pv 0) (pa_cons (pv 1) (pa_cons (pv 2) (pa_cons pe_str (pa_cons (pe_op op_sub (pv 4) pe_int) pa_nil)))))) (pa_cons (pe_call GR hrR rfl mF F.kp bF .nil pass0 (pa_cons (pv 0) (pa_cons (pv 1) (pa_cons (pv 2) (pa_cons pe_str (pa_cons (pe_op op_sub (pv 4) pe_int) pa_nil)))))) pa_nil))))) ?i11)))))))))))), ?main⟩
    case iL =>
      rintro D σ H1 ⟨way, w6, w7, w8, w9, w10, w11, rfl, _, I1, k1, _⟩
      exact ⟨_, rfl, _, rfl, _, rfl, _, rfl, d, l, c, a, n, nm, g, rfl, I1, hg, fun v H' D' B' t => k1 v H' D' B' (t.le (mostN_ge e) (by omega))⟩
    case i1 =>
      rintro D σ H1 ⟨way, w6, w7, w8, w9, w10, w11, rfl, h0, I1, k1, kn⟩
      refine ⟨_, rfl, rfl, _, rfl, ?_⟩
      by_cases e0 : e = 0
      · rw [decide_eq_true (show V.int ((e : Nat) : Int) = V.int 0 by rw [e0]; rfl)]
        repeat refine iteT ?_
        exact ⟨way, w6, w7, w8, w9, w10, w11, rfl, trivial, I1, k1, fun _ _ _ _ _ _ _ z => z.elim⟩
      rw [decide_eq_false (fun z => e0 (by have := V.int.inj z; omega))]
      refine iteF ?_
      refine ⟨_, rfl, _, _, rfl, rfl, _, rfl, ?_⟩
      by_cases w2 : way < 2
      · rw [decide_eq_true w2]
        repeat refine iteT ?_
        exact ⟨way, w6, w7, w8, w9, w10, w11, rfl, trivial, I1, k1, fun _ _ _ _ _ _ _ z => z.elim⟩
      rw [decide_eq_false w2]
      refine iteF ?_
      refine ⟨_, rfl, rfl, _, rfl, ?_⟩
      rw [dec_str]
      by_cases gb : g = "box"
      · rw [beq_iff_eq.mpr gb]
        refine iteT ?_
        refine ⟨_, rfl, _, _, rfl, rfl, _, rfl, ?_⟩
        by_cases w10' : way < 10
        · rw [decide_eq_true w10']
          repeat refine iteT ?_
          exact ⟨way, w6, w7, w8, w9, w10, w11, rfl, trivial, I1, k1, fun _ _ _ _ _ _ _ z => z.elim⟩
        · rw [decide_eq_false w10']
          repeat refine iteF ?_
          exact kn _ _ _ _ _ _ _ ⟨e0, fun z => w10' z.2⟩ I1 (But.refl _ _ _)
      · rw [beq_false_of_ne gb]
        repeat refine iteF ?_
        exact kn _ _ _ _ _ _ _ ⟨e0, fun z => gb z.1⟩ I1 (But.refl _ _ _)
    case i3 =>
      rintro D σ H1 ⟨way, w6, w7, w8, w9, w10, w11, rfl, e0, I1, kn⟩
      obtain _ | e := e
      · exact absurd rfl e0
      refine ⟨_, rfl, _, _, rfl, rfl, _, rfl, ?_⟩
      refine ite2 (fun _ => ?_) (fun _ => kn _ _ (.inl rfl) I1 (But.refl _ _ _))
      refine ⟨_, rfl, _, rfl, _, rfl, _, rfl, _, rfl, d, l, c, a, n, nm, g, rfl, I1, h60, hg, fun H4 I4 B4 => kn _ _ (.inl rfl) I4 B4, fun v H4 D4 B4 t4 => ?_⟩
      obtain ⟨p, rfl⟩ := t4.ref
      exact kn _ _ (.inr ⟨fun z => (by cases z), t4⟩) (I1.but D4 B4) B4
    case iM =>
      rintro D σ H1 ⟨way, w6, w7, w9, w10, w11, v, rfl, hv, I1, kn⟩
      refine ⟨_, rfl, rfl, _, rfl, ?_⟩
      rcases hv with rfl | ⟨ne, q⟩
      · exact iteF (kn rfl)
      · rw [decide_eq_false ne]
        exact iteT ⟨_, rfl, q⟩
    case main =>
      refine ⟨_, rfl, d, l, c, 14, rfl, by decide, by decide, I.D, fun way H1 w0 w14 D1 B1 => ?_⟩
      have k1 := k.later B1
      refine ⟨way, none, none, none, none, none, none, rfl, w0, I.but D1 B1, k1, fun H2 w6 w7 w8 w9 w10 w11 ⟨e0, nb⟩ I2 B2 => ?_⟩
      have k2 := k1.later B2
      refine ⟨way, w6, w7, w8, w9, w10, w11, rfl, e0, I2, k2, fun H3 w6 w7 w8 w9 w10 w11 gb I3 B3 => ?_⟩
      have k3 := k2.later B3
      have hend : endB g = true := by
        rcases plain_in hg with rfl | rfl | rfl
        · decide +kernel
        · decide +kernel
        · exact absurd rfl gb
      refine ⟨way, w6, w7, w8, w9, w10, w11, rfl, e0, I3, fun H4 v hv I4 B4 => ?_⟩
      have k4 := k3.later B4
      refine ⟨way, w6, w7, w9, w10, w11, v, rfl, ?_, I4, fun _ => ?_⟩
      · rcases hv with h | ⟨h, t⟩
        · exact .inl h
        · exact .inr ⟨h, k4 v H4 I4.D (But.refl _ _ _) t⟩
      refine ⟨way, w6, w7, some v, w9, w10, w11, rfl, ⟨e0, hend⟩, I4, k4, fun H5 w6 w7 w8 w9 w10 w11 _ I5 B5 => ?_⟩
      have k5 := k4.later B5
      refine ⟨way, w6, w7, w8, w9, w10, w11, rfl, ⟨e0, hend⟩, I5, k5, fun H6 w6 w7 w8 w9 w10 w11 _ I6 B6 => ?_⟩
      have k6 := k5.later B6
      refine ⟨way, w6, w7, w8, w9, w10, w11, rfl, ⟨e0, hend⟩, I6, k6, fun H7 w6 w7 w8 w9 w10 w11 _ I7 B7 => ?_⟩
      have k7 := k6.later B7
      refine ⟨way, w6, w7, w8, w9, w10, w11, rfl, e0, I7, k7, fun H8 w6 w7 w8 w9 w10 w11 gn I8 B8 => ?_⟩
      have k8 := k7.later B8
      have gd : g = "do" := by
        rcases plain_in hg with z | z | z
        · exact absurd z gn
        · exact z
        · exact absurd z gb
      refine ⟨way, w6, w7, w8, w9, w10, w11, rfl, ⟨e0, gd⟩, I8, k8, fun H9 w6 w7 w8 w9 w10 w11 _ I9 B9 => ?_⟩
      have k9 := k8.later B9
      refine ⟨way, w6, w7, w8, w9, w10, w11, rfl, ⟨e0, gd⟩, I9, k9, fun H10 w6 w7 w8 w9 w10 w11 _ I10 B10 => ?_⟩
      exact ⟨way, w6, w7, w8, w9, w10, w11, rfl, ⟨e0, gd⟩, I10, k9.later B10, fun _ _ _ _ _ _ _ z => z.elim⟩
    case i6 =>
      rintro D σ H1 ⟨way, w6, w7, w8, w9, w10, w11, rfl, ⟨e0, hend⟩, I1, k1, kn⟩
      obtain _ | e := e
      · exact absurd rfl e0
      refine ⟨_, rfl, _, _, rfl, rfl, _, rfl, ?_⟩
      refine ite2 (fun _ => ?_) (fun _ => kn _ _ _ _ _ _ _ trivial I1 (But.refl _ _ _))
      refine ⟨_, rfl, _, rfl, _, rfl, _, rfl, _, _, rfl, rfl, ?_⟩
      refine term_key (E := E0) I1 (by omega) (by decide +kernel) fun v1 H2 I2 B2 t1 => ?_
      refine ⟨_, rfl, _, rfl, _, rfl, _, rfl, _, rfl, _, _, rfl, rfl, ?_⟩
      refine term_key (E := E0) I2 (by omega) hg fun v2 H3 I3 B3 t2 => ⟨by show 3 ≤ sizeLine; decide, fun t nt => ?_⟩
      have s4 := new_same (o := .tup [.str "then", v1, v2]) nt
      exact k1.later (B2.trans B3) _ _ (I3.D.same s4) (But.of s4) ((t_then hend ((t1.but I2.D B3).same s4) (t2.same s4) upd_same).le (by show 1 + (mostN e + mostN e) ≤ 1 + 3 * mostN e; omega) (by omega))
    case i9 =>
      rintro D σ H1 ⟨way, w6, w7, w8, w9, w10, w11, rfl, ⟨e0, rfl⟩, I1, k1, kn⟩
      obtain _ | e := e
      · exact absurd rfl e0
      refine ⟨_, rfl, rfl, _, rfl, ?_⟩
      refine ite2 (fun _ => ?_) (fun _ => kn _ _ _ _ _ _ _ trivial I1 (But.refl _ _ _))
      refine ⟨_, rfl, _, rfl, _, rfl, _, rfl, _, _, rfl, rfl, ?_⟩
      refine term_key (E := E0) I1 (by omega) (by decide +kernel) fun v1 H2 I2 B2 t1 => ?_
      refine ⟨_, rfl, _, rfl, _, rfl, _, rfl, _, _, rfl, rfl, ?_⟩
      refine term_key (E := E0) I2 (by omega) (by decide +kernel) fun v2 H3 I3 B3 t2 => ⟨by show 3 ≤ sizeLine; decide, fun t nt => ?_⟩
      have s4 := new_same (o := .tup [.str "while", v1, v2]) nt
      exact k1.later (B2.trans B3) _ _ (I3.D.same s4) (But.of s4) ((t_while ((t1.but I2.D B3).same s4) (t2.same s4) upd_same).le (by show 1 + (mostN e + mostN e) ≤ 1 + 3 * mostN e; omega) (by omega))
    case i11 =>
      rintro D σ H1 ⟨way, w6, w7, w8, w9, w10, w11, rfl, ⟨e0, rfl⟩, I1, k1, _⟩
      obtain _ | e := e
      · exact absurd rfl e0
      refine ⟨_, rfl, _, rfl, _, rfl, _, rfl, _, _, rfl, rfl, ?_⟩
      refine term_key (E := E0) I1 (by omega) (by decide +kernel) fun v1 H2 I2 B2 t1 => ?_
      refine ⟨_, rfl, _, rfl, _, rfl, _, rfl, _, _, rfl, rfl, ?_⟩
      refine term_key (E := E0) I2 (by omega) (by decide +kernel) fun v2 H3 I3 B3 t2 => ⟨by show 3 ≤ sizeLine; decide, fun t nt => ?_⟩
      have s4 := new_same (o := .tup [.str "set", v1, v2]) nt
      exact k1.later (B2.trans B3) _ _ (I3.D.same s4) (But.of s4) ((t_set ((t1.but I2.D B3).same s4) (t2.same s4) upd_same).le (by show 1 + (mostN e + mostN e) ≤ 1 + 3 * mostN e; omega) (by omega))
    case i10 =>
      rintro D σ H1 ⟨way, w6, w7, w8, w9, w10, w11, rfl, ⟨e0, rfl⟩, I1, k1, kn⟩
      obtain _ | e := e
      · exact absurd rfl e0
      refine ⟨_, rfl, rfl, _, rfl, ?_⟩
      refine ite2 (fun _ => ?_) (fun _ => kn _ _ _ _ _ _ _ trivial I1 (But.refl _ _ _))
      refine ⟨_, rfl, d, l, c, 2, rfl, by decide, by decide, I1.D, fun i H2 i0 i2 D2 B2 => ⟨rfl, _, rfl, ?_⟩⟩
      have I2 := I1.but D2 B2
      refine ite2 (fun _ => ?_) (fun _ => ?_)
      · refine ⟨_, rfl, _, rfl, _, rfl, _, rfl, _, _, rfl, rfl, ?_⟩
        refine term_key (E := E0) I2 (by omega) (by decide +kernel) fun v1 H3 I3 B3 t1 => ⟨by show 2 ≤ sizeLine; decide, fun t nt => ?_⟩
        have s4 := new_same (o := .tup [.str "claim", v1]) nt
        exact k1.later (B2.trans B3) _ _ (I3.D.same s4) (But.of s4) ((t_claim (t1.same s4) upd_same).le (by show 1 + mostN e ≤ 1 + 3 * mostN e; omega) (by omega))
      · refine ⟨by show 2 ≤ sizeLine; decide, fun t nt => ?_⟩
        have s4 := new_same (o := .tup [.str "never", .str "do"]) nt
        exact k1.later B2 _ _ (I2.D.same s4) (But.of s4) ((t_never upd_same).le (by have := mostN_ge (e + 1); omega) (by omega))
    case in1 =>
      rintro σ H1 Q ⟨a2, nm2, y, h2, h6, hN, hnd, few, kq⟩
      obtain ⟨kvs, ea, hk, hv⟩ := id hN
      refine ⟨_, h2, a2, kvs, rfl, ea, fun H2 p ts s2 np nts pn ep pr => ?_⟩
      have s2 : Same H1 H2 := s2
      refine ⟨_, h6, Nat.zero_le _, fun t1 n1 => ⟨by show 2 ≤ sizeLine; decide, fun t2 n2 => ⟨by show 2 ≤ sizeLine; decide, fun t3 n3 => ⟨by show 1 ≤ sizeLine; decide, fun L nL => ?_⟩⟩⟩⟩
      have s3 := new_same (o := .tup []) n1
      have e3 : (upd H2 t1 (.tup [])) t1 = some (.tup []) := upd_same
      generalize upd H2 t1 (.tup []) = H3 at s3 e3 n2 n3 nL ⊢
      have s4 := new_same (o := .tup [.ref t1, .str "num"]) n2
      have e4 : (upd H3 t2 (.tup [.ref t1, .str "num"])) t2 = some (.tup [.ref t1, .str "num"]) := upd_same
      generalize upd H3 t2 (.tup [.ref t1, .str "num"]) = H4 at s4 e4 n3 nL ⊢
      have s5 := new_same (o := .tup [.str y, .ref t2]) n3
      have e5 : (upd H4 t3 (.tup [.str y, .ref t2])) t3 = some (.tup [.str y, .ref t2]) := upd_same
      generalize upd H4 t3 (.tup [.str y, .ref t2]) = H5 at s5 e5 nL ⊢
      have s6 := new_same (o := .lst [.ref t3]) nL
      have e6 : (upd H5 L (.lst [.ref t3])) L = some (.lst [.ref t3]) := upd_same
      generalize upd H5 L (.lst [.ref t3]) = H6 at s6 e6 ⊢
      have s26 := ((s3.trans s4).trans s5).trans s6
      have lt : ts.length = kvs.length := pair_len pr
      have lk : kvs.length = nm2.length := by
        have := congrArg List.length hk
        simpa using this
      refine ⟨p, L, ts.map V.ref, [.ref t3], rfl, rfl, s26 _ _ ep, e6, Nat.le_of_lt (small1000 (by rw [List.length_map]; simp only [List.length_cons, List.length_nil]; omega)), fun p2 np2 => ?_⟩
      have s7 := new_same (o := .lst (ts.map V.ref ++ [.ref t3])) np2
      have e7 : (upd H6 p2 (.lst (ts.map V.ref ++ [.ref t3]))) p2 = some (.lst (ts.map V.ref ++ [.ref t3])) := upd_same
      generalize upd H6 p2 (.lst (ts.map V.ref ++ [.ref t3])) = H7 at s7 e7 ⊢
      have s27 := s26.trans s7
      refine ⟨p2, ts ++ [t3], kvs ++ [((.inr y : Key), .ref t2)], rfl, by rw [List.map_append]; exact SqL.of e7, pair_app (y := ((.inr y : Key), V.ref t2)) (pair_map pr fun x q h => SqT.of (s27 _ _ h)) (SqT.of (show H7 t3 = some (.tup [.str y, .ref t2]) from s7 _ _ (s6 _ _ e5))), fun b nb => ?_⟩
      have nk : (kvs.map Prod.fst).Nodup := by
        rw [hk, show (nm2.map fun q => (.inr q.1 : Key)) = (nm2.map Prod.fst).map Sum.inr by rw [List.map_map]; rfl]
        exact List.Pairwise.map Sum.inr (fun _ _ h z => h (Sum.inr.inj z)) hnd
      have em : mergeK [] (kvs ++ [((.inr y : Key), V.ref t2)]) = putK kvs (.inr y) (.ref t2) := by
        have z := merge_nil nk
        unfold mergeK at z ⊢
        rw [List.foldl_append, z]
        rfl
      rw [em]
      have s17 := s2.trans s27
      have s8 := new_same (o := .dK (putK kvs (.inr y) (.ref t2))) nb
      obtain ⟨p1, p2'⟩ := put_nm (H := H7) (y := y) (v := .ref t2) (g := ([], "num")) hk (dps_same s17 hv) (.tup (SqT.of (((s5.trans s6).trans s7) _ _ e4)) (.cons (.tup (SqT.of ((((s4.trans s5).trans s6).trans s7) _ _ e3)) .nil) (.cons (.str _) .nil)))
      exact kq b _ (s17.trans s8) (s17.free nb) ⟨_, upd_same, p1, dps_same s8 p2'⟩
    case in2 =>
      rintro σ H1 Q ⟨a2, nm2, y, h2, h6, hN, hnd, few, kq⟩
      obtain ⟨kvs, ea, hk, hv⟩ := id hN
      refine ⟨_, h2, a2, kvs, rfl, ea, fun H2 p ts s2 np nts pn ep pr => ?_⟩
      have s2 : Same H1 H2 := s2
      refine ⟨_, h6, Nat.zero_le _, fun t1 n1 => ⟨by show 2 ≤ sizeLine; decide, fun t2 n2 => ⟨by show 2 ≤ sizeLine; decide, fun t3 n3 => ⟨by show 1 ≤ sizeLine; decide, fun L nL => ?_⟩⟩⟩⟩
      have s3 := new_same (o := .tup []) n1
      have e3 : (upd H2 t1 (.tup [])) t1 = some (.tup []) := upd_same
      generalize upd H2 t1 (.tup []) = H3 at s3 e3 n2 n3 nL ⊢
      have s4 := new_same (o := .tup [.ref t1, .str "box"]) n2
      have e4 : (upd H3 t2 (.tup [.ref t1, .str "box"])) t2 = some (.tup [.ref t1, .str "box"]) := upd_same
      generalize upd H3 t2 (.tup [.ref t1, .str "box"]) = H4 at s4 e4 n3 nL ⊢
      have s5 := new_same (o := .tup [.str y, .ref t2]) n3
      have e5 : (upd H4 t3 (.tup [.str y, .ref t2])) t3 = some (.tup [.str y, .ref t2]) := upd_same
      generalize upd H4 t3 (.tup [.str y, .ref t2]) = H5 at s5 e5 nL ⊢
      have s6 := new_same (o := .lst [.ref t3]) nL
      have e6 : (upd H5 L (.lst [.ref t3])) L = some (.lst [.ref t3]) := upd_same
      generalize upd H5 L (.lst [.ref t3]) = H6 at s6 e6 ⊢
      have s26 := ((s3.trans s4).trans s5).trans s6
      have lt : ts.length = kvs.length := pair_len pr
      have lk : kvs.length = nm2.length := by
        have := congrArg List.length hk
        simpa using this
      refine ⟨p, L, ts.map V.ref, [.ref t3], rfl, rfl, s26 _ _ ep, e6, Nat.le_of_lt (small1000 (by rw [List.length_map]; simp only [List.length_cons, List.length_nil]; omega)), fun p2 np2 => ?_⟩
      have s7 := new_same (o := .lst (ts.map V.ref ++ [.ref t3])) np2
      have e7 : (upd H6 p2 (.lst (ts.map V.ref ++ [.ref t3]))) p2 = some (.lst (ts.map V.ref ++ [.ref t3])) := upd_same
      generalize upd H6 p2 (.lst (ts.map V.ref ++ [.ref t3])) = H7 at s7 e7 ⊢
      have s27 := s26.trans s7
      refine ⟨p2, ts ++ [t3], kvs ++ [((.inr y : Key), .ref t2)], rfl, by rw [List.map_append]; exact SqL.of e7, pair_app (y := ((.inr y : Key), V.ref t2)) (pair_map pr fun x q h => SqT.of (s27 _ _ h)) (SqT.of (show H7 t3 = some (.tup [.str y, .ref t2]) from s7 _ _ (s6 _ _ e5))), fun b nb => ?_⟩
      have nk : (kvs.map Prod.fst).Nodup := by
        rw [hk, show (nm2.map fun q => (.inr q.1 : Key)) = (nm2.map Prod.fst).map Sum.inr by rw [List.map_map]; rfl]
        exact List.Pairwise.map Sum.inr (fun _ _ h z => h (Sum.inr.inj z)) hnd
      have em : mergeK [] (kvs ++ [((.inr y : Key), V.ref t2)]) = putK kvs (.inr y) (.ref t2) := by
        have z := merge_nil nk
        unfold mergeK at z ⊢
        rw [List.foldl_append, z]
        rfl
      rw [em]
      have s17 := s2.trans s27
      have s8 := new_same (o := .dK (putK kvs (.inr y) (.ref t2))) nb
      obtain ⟨p1, p2'⟩ := put_nm (H := H7) (y := y) (v := .ref t2) (g := ([], "box")) hk (dps_same s17 hv) (.tup (SqT.of (((s5.trans s6).trans s7) _ _ e4)) (.cons (.tup (SqT.of ((((s4.trans s5).trans s6).trans s7) _ _ e3)) .nil) (.cons (.str _) .nil)))
      exact kq b _ (s17.trans s8) (s17.free nb) ⟨_, upd_same, p1, dps_same s8 p2'⟩
    case i2 =>
      rintro D σ H1 ⟨way, w6, w7, w8, w9, w10, w11, rfl, e0, I1, k1, kn⟩
      obtain _ | e := e
      · exact absurd rfl e0
      refine ⟨_, rfl, rfl, _, rfl, ?_⟩
      rw [dec_str]
      by_cases gb : g = "box"
      rotate_left
      · rw [beq_false_of_ne gb]
        exact iteF (kn _ _ _ _ _ _ _ gb I1 (But.refl _ _ _))
      subst gb
      refine iteT ?_
      refine ⟨_, rfl, by show 2 ≤ sizeLine; decide, fun L nL => ?_⟩
      have s2 := new_same (o := .lst [.str "w", .str "x"]) nL
      have I2 := I1.same s2
      have Ln := new_dl I1.D nL
      refine ⟨d, l, c, L, [.str "w", .str "x"], rfl, upd_same, Ln.1, Ln.2.1, by decide, by decide, I2.D, fun i x H3 hx D3 B3 => ?_⟩
      have hy : ∃ y : Str, x = .str y ∧ wordW y ∧ PyData.strOk y = true := by
        match i, hx with
        | 0, hx => cases hx; exact ⟨_, rfl, by decide +kernel, by decide +kernel⟩
        | 1, hx => cases hx; exact ⟨_, rfl, by decide +kernel, by decide +kernel⟩
        | i + 2, hx => simp at hx
      obtain ⟨y, rfl, hw, hso⟩ := hy
      have I3 := I2.but D3 B3
      have B13 := (But.of (d := d) (l := l) s2).trans B3
      refine ⟨a, nm, y, rfl, rfl, I3.N, I3.G.nd, I3.few, fun b H4 s4 nb hb => ?_⟩
      have I4 := I3.same s4
      have bn := new_dl I3.D nb
      have lp := putL_len nm y ([], "num")
      refine ⟨_, rfl, _, rfl, _, rfl, _, rfl, _, _, rfl, rfl, ?_⟩
      refine term_key (E := E0) I4 (by omega) (by decide +kernel) fun v1 H5 I5 B5 t1 => ?_
      have Ib : In0 K H4 n (putL nm y ([], "num")) d l c b := ⟨I4.D, I4.n2, I4.n4, hb, I4.G.put ⟨hw, hso⟩ (by decide +kernel), by omega, bn.1⟩
      refine ⟨_, rfl, _, rfl, _, rfl, _, rfl, _, rfl, _, _, rfl, rfl, ?_⟩
      refine term_key (E := E0) (Ib.but I5.D B5) (by omega) (by decide +kernel) fun v2 H6 I6 B6 t2 => ⟨by show 4 ≤ sizeLine; decide, fun t nt => ?_⟩
      have s7 := new_same (o := .tup [.str "made", v1, .str y, v2]) nt
      exact k1.later (((B13.trans (But.of s4)).trans B5).trans B6) _ _ (I6.D.same s7) (But.of s7) ((t_made hw ((t1.but I5.D B6).same s7) (t2.same s7) upd_same).le (by show 1 + (mostN e + mostN e) ≤ 1 + 3 * mostN e; omega) (by omega))
    case i7 =>
      rintro D σ H1 ⟨way, w6, w7, w8, w9, w10, w11, rfl, ⟨e0, hend⟩, I1, k1, kn⟩
      obtain _ | e := e
      · exact absurd rfl e0
      refine ⟨_, rfl, rfl, _, rfl, ?_⟩
      refine ite2 (fun _ => ?_) (fun _ => kn _ _ _ _ _ _ _ trivial I1 (But.refl _ _ _))
      refine ⟨_, rfl, by show 3 ≤ sizeLine; decide, fun L nL => ?_⟩
      have s2 := new_same (o := .lst [.str "c", .str "d", .str "v"]) nL
      have I2 := I1.same s2
      have Ln := new_dl I1.D nL
      refine ⟨d, l, c, L, [.str "c", .str "d", .str "v"], rfl, upd_same, Ln.1, Ln.2.1, by decide, by decide, I2.D, fun i x H3 hx D3 B3 => ?_⟩
      have hy : ∃ y : Str, x = .str y ∧ wordW y ∧ PyData.strOk y = true := by
        match i, hx with
        | 0, hx => cases hx; exact ⟨_, rfl, by decide +kernel, by decide +kernel⟩
        | 1, hx => cases hx; exact ⟨_, rfl, by decide +kernel, by decide +kernel⟩
        | 2, hx => cases hx; exact ⟨_, rfl, by decide +kernel, by decide +kernel⟩
        | i + 3, hx => simp at hx
      obtain ⟨y, rfl, hw, hso⟩ := hy
      have I3 := I2.but D3 B3
      have B13 := (But.of (d := d) (l := l) s2).trans B3
      refine ⟨a, nm, y, rfl, rfl, I3.N, I3.G.nd, I3.few, fun b H4 s4 nb hb => ?_⟩
      have I4 := I3.same s4
      have bn := new_dl I3.D nb
      have lp := putL_len nm y ([], "box")
      have Ib : In0 K H4 n (putL nm y ([], "box")) d l c b := ⟨I4.D, I4.n2, I4.n4, hb, I4.G.put ⟨hw, hso⟩ (by decide +kernel), by omega, bn.1⟩
      refine ⟨_, rfl, _, rfl, _, rfl, d, l, c, n, rfl, by have := I4.n2; omega, by have := I4.n4; omega, I4.D, fun i H5 i0 i1 D5 B5 => ?_⟩
      refine ⟨_, rfl, _, rfl, _, rfl, _, rfl, _, rfl, _, _, rfl, rfl, ?_⟩
      refine term_key (E := E0) (Ib.but D5 B5) (by omega) hg fun v2 H6 I6 B6 t2 => ⟨by show 4 ≤ sizeLine; decide, fun t nt => ?_⟩
      have s7 := new_same (o := .tup [.str "new", .str y, .int i, v2]) nt
      exact k1.later (((B13.trans (But.of s4)).trans B5).trans B6) _ _ (I6.D.same s7) (But.of s7) ((t_new hw i0 i1 hend (t2.same s7) upd_same).le (by show 1 + mostN e ≤ 1 + 3 * mostN e; omega) (by omega))
    case i8 =>
      rintro D σ H1 ⟨way, w6, w7, w8, w9, w10, w11, rfl, e0, I1, k1, kn⟩
      refine ⟨_, rfl, rfl, _, rfl, ?_⟩
      rw [dec_str]
      by_cases gn : g = "num"
      rotate_left
      · rw [beq_false_of_ne gn]
        exact iteF (kn _ _ _ _ _ _ _ gn I1 (But.refl _ _ _))
      rw [beq_iff_eq.mpr gn]
      refine iteT ?_
      refine ⟨way, w6, w7, w8, w9, w10, w11, rfl, ⟨e0, gn⟩, I1, k1, fun H2 w6 w7 w8 w9 w10 w11 _ I2 B2 => ?_⟩
      have k2 := k1.later B2
      refine ⟨way, w6, w7, w8, w9, w10, w11, rfl, ⟨e0, gn⟩, I2, k2, fun H3 w6 w7 w8 w9 w10 w11 _ I3 B3 => ?_⟩
      exact ⟨way, w6, w7, w8, w9, w10, w11, rfl, ⟨e0, gn⟩, I3, k2.later B3, fun _ _ _ _ _ _ _ z => z.elim⟩
    case i8a =>
      rintro D σ H1 ⟨way, w6, w7, w8, w9, w10, w11, rfl, ⟨e0, rfl⟩, I1, k1, kn⟩
      obtain _ | e := e
      · exact absurd rfl e0
      refine ⟨_, rfl, rfl, _, rfl, ?_⟩
      refine ite2 (fun _ => ?_) (fun _ => kn _ _ _ _ _ _ _ trivial I1 (But.refl _ _ _))
      refine ⟨_, rfl, _, rfl, _, rfl, _, rfl, _, _, rfl, rfl, ?_⟩
      refine term_key (E := E0) I1 (by omega) (by decide +kernel) fun v1 H2 I2 B2 t1 => ⟨by show 2 ≤ sizeLine; decide, fun t nt => ?_⟩
      have s4 := new_same (o := .tup [.str "not", v1]) nt
      exact k1.later B2 _ _ (I2.D.same s4) (But.of s4) ((t_not (t1.same s4) upd_same).le (by show 1 + mostN e ≤ 1 + 3 * mostN e; omega) (by omega))
    case i8b =>
      rintro D σ H1 ⟨way, w6, w7, w8, w9, w10, w11, rfl, ⟨e0, rfl⟩, I1, k1, kn⟩
      obtain _ | e := e
      · exact absurd rfl e0
      refine ⟨_, rfl, rfl, _, rfl, ?_⟩
      refine ite2 (fun _ => ?_) (fun _ => iteF (kn _ _ _ _ _ _ _ trivial I1 (But.refl _ _ _)))
      refine ⟨_, rfl, d, l, c, 2, rfl, by decide, by decide, I1.D, fun i H2 i0 i2 D2 B2 => ⟨rfl, _, rfl, ?_⟩⟩
      have I2 := I1.but D2 B2
      refine ite2 (fun _ => ?_) (fun _ => kn _ _ _ _ _ _ _ trivial I2 B2)
      refine ⟨_, rfl, _, rfl, _, rfl, _, rfl, _, _, rfl, rfl, ?_⟩
      refine term_key (E := E0) I2 (by omega) (by decide +kernel) fun v1 H3 I3 B3 t1 => ⟨by show 2 ≤ sizeLine; decide, fun t nt => ?_⟩
      obtain ⟨p, rfl⟩ := t1.ref
      have s4 := new_same (o := .tup [.str "get", .ref p]) nt
      exact k1.later (B2.trans B3) _ _ (I3.D.same s4) (But.of s4) ((t_get (t1.same s4) upd_same).le (by show 1 + mostN e ≤ 1 + 3 * mostN e; omega) (by omega))
    case i8c =>
      rintro D σ H1 ⟨way, w6, w7, w8, w9, w10, w11, rfl, ⟨e0, rfl⟩, I1, k1, _⟩
      obtain _ | e := e
      · exact absurd rfl e0
      refine ⟨_, rfl, by show 4 ≤ sizeLine; decide, fun L nL => ?_⟩
      have s2 := new_same (o := .lst [.str "sum", .str "less", .str "same", .str "below"]) nL
      have I2 := I1.same s2
      have Ln := new_dl I1.D nL
      refine ⟨d, l, c, L, [.str "sum", .str "less", .str "same", .str "below"], rfl, upd_same, Ln.1, Ln.2.1, by decide, by decide, I2.D, fun i x H3 hx D3 B3 => ?_⟩
      have hy : ∃ y : Str, x = .str y ∧ opB y = true := by
        match i, hx with
        | 0, hx => cases hx; exact ⟨_, rfl, by decide +kernel⟩
        | 1, hx => cases hx; exact ⟨_, rfl, by decide +kernel⟩
        | 2, hx => cases hx; exact ⟨_, rfl, by decide +kernel⟩
        | 3, hx => cases hx; exact ⟨_, rfl, by decide +kernel⟩
        | i + 4, hx => simp at hx
      obtain ⟨y, rfl, ho⟩ := hy
      have I3 := I2.but D3 B3
      have B13 := (But.of (d := d) (l := l) s2).trans B3
      refine ⟨_, rfl, _, rfl, _, rfl, _, rfl, _, _, rfl, rfl, ?_⟩
      refine term_key (E := E0) I3 (by omega) (by decide +kernel) fun v1 H4 I4 B4 t1 => ?_
      refine ⟨_, rfl, _, rfl, _, rfl, _, rfl, _, _, rfl, rfl, ?_⟩
      refine term_key (E := E0) I4 (by omega) (by decide +kernel) fun v2 H5 I5 B5 t2 => ⟨by show 3 ≤ sizeLine; decide, fun t nt => ?_⟩
      have s6 := new_same (o := .tup [.str y, v1, v2]) nt
      exact k1.later ((B13.trans B4).trans B5) _ _ (I5.D.same s6) (But.of s6) ((t_op ho ((t1.but I4.D B5).same s6) (t2.same s6) upd_same).le (by show 1 + (mostN e + mostN e) ≤ 1 + 3 * mostN e; omega) (by omega))
    case i5 =>
      rintro D σ H1 ⟨way, w6, w7, w8, w9, w10, w11, rfl, ⟨e0, hend⟩, I1, k1, kn⟩
      obtain _ | e := e
      · exact absurd rfl e0
      refine ⟨_, rfl, rfl, _, rfl, ?_⟩
      refine ite2 (fun _ => ?_) (fun _ => kn _ _ _ _ _ _ _ trivial I1 (But.refl _ _ _))
      refine ⟨_, rfl, _, rfl, _, rfl, _, rfl, _, _, rfl, rfl, ?_⟩
      refine term_key (E := E0) I1 (by omega) (by decide +kernel) fun v1 H2 I2 B2 t1 => ?_
      refine ⟨2, rfl, by decide, by decide, fun Dd nDd => ?_⟩
      have DdN := new_dl I2.D nDd
      have s3 := new_same (o := .lst []) nDd
      refine lc_range (lo := 0) (n := 2) (fun i H' => In0 K H' n nm d l c a ∧ But H2 H' d l ∧ ∃ vs : List V, H' Dd = some (.lst vs) ∧ vs.length = i ∧ ∀ v ∈ vs, TermAt K H' n nm g (mostN e) (e + 2) v) ⟨I2.same s3, But.of s3, [], upd_same, rfl, by simp⟩ ?_ ?_
      · rintro i H3 hi ⟨I3, B3, vs, e3, hlv, ht⟩
        refine ⟨rfl, ?_⟩
        refine ⟨_, rfl, _, rfl, _, rfl, _, rfl, _, rfl, _, _, rfl, rfl, ?_⟩
        refine term_key (E := E0) I3 (by omega) hg fun v H4 I4 B4 t4 => ?_
        have e4 := B4 _ _ e3 DdN.1 DdN.2.1
        refine ⟨vs, e4, small1000 (by omega), I4.off e4 DdN.1 DdN.2.1 DdN.2.2, fun b o hb h1 h2 => ?_, vs ++ [v], upd_same, by rw [List.length_append, hlv]; rfl, fun x hx => ?_⟩
        · rw [upd_ne (ne_of_none hb nDd)]
          exact B3.trans B4 b o hb h1 h2
        · rcases List.mem_append.mp hx with m | m
          · exact ((ht x m).but I3.D B4).off e4
          · rw [List.mem_singleton] at m
            subst m
            exact t4.off e4
      · rintro H3 ⟨I3, B3, vs, e3, hlv, ht⟩
        match vs, hlv with
        | [x, y], _ =>
          refine ⟨_, _, rfl, ?_⟩
          refine ⟨_, rfl, _, rfl, Dd, _, 0, _, rfl, rfl, SqL.of e3, atI_nat (j := 0) rfl, _, rfl, Dd, _, 1, _, rfl, rfl, SqL.of e3, atI_nat (j := 1) rfl, by show 4 ≤ sizeLine; decide, fun t nt => ?_⟩
          have s4 := new_same (o := .tup [.str "if", v1, x, y]) nt
          exact k1.later (B2.trans B3) _ _ (I3.D.same s4) (But.of s4) ((t_if hend ((t1.but I2.D B3).same s4) ((ht x (by simp)).same s4) ((ht y (by simp)).same s4) upd_same).le (by show 1 + 3 * mostN e ≤ 1 + 3 * mostN e; omega) (by omega))
end
end Jd
/-! _law_term at every depth; _law_fine_term. -/
namespace Jd
open PySem PySem.Spec PyProof.Rows L2 RZ Dk
abbrev sLFine : Stmt := Jd.top 61
abbrev fiN : List Str := ["draw", "size", "names_here", "sort_here", "deep", "found"]
theorem scLFine : FnScope fiN ["draw", "size", "names_here", "sort_here", "deep"] (defScope sLFine) := ⟨rfl, rfl, rfl, by decide +kernel, rfl, by decide +kernel, by decide +kernel⟩
theorem sign_ok : ∀ c ∈ signs.cps.toList, c < 0x110000 := by decide +kernel
theorem word_strOk {x : Str} (h : wordD (.str x) = true) : PyData.strOk x = true := by
  simp only [wordD, Bool.and_eq_true] at h
  unfold PyData.strOk
  rw [← Array.all_toList, List.all_eq_true]
  intro c hc
  have z := List.all_eq_true.mp h.2 c hc
  unfold signB at z
  exact decide_eq_true (sign_ok c (of_decide_eq_true z))
theorem words_nmG {nm : NmS} (g : GoodNm nm) (nd : (nm.map Prod.fst).Nodup) (ne : ∀ q ∈ nm, q.1 ≠ "other") : NmG (toNm nm) := by
  refine ⟨?_, fun q hq => ?_⟩
  · unfold toNm
    rw [List.map_map]
    exact nd
  · obtain ⟨r, hr, rfl⟩ := List.mem_map.mp hq
    obtain ⟨h1, h2⟩ := g.2 r hr
    have h2' : sortD (.tuple [.tuple (r.2.1.map PyData.str), .str r.2.2]) = true := h2
    refine ⟨⟨⟨h1, ne r hr⟩, word_strOk h1⟩, r.2.1, rfl, ?_⟩
    simp only [sortD, Bool.and_eq_true] at h2'
    obtain ⟨⟨⟨a1, a2⟩, a3⟩, _⟩ := h2'
    rw [List.length_map] at a1
    refine ⟨by simp at a1; omega, fun s hs => ?_, a2⟩
    exact List.all_eq_true.mp a3 _ (List.mem_map_of_mem hs)
section
variable {P : Program} {w : World} {K : PySem.W.Frag} {mg : Str → Option Value} {base : Heap} {H : Hp}
theorem term_all {f fT fP fL fC : Addr} {fd fdT fdP fdL fdC : FuncData} (F : Fun K "_law_term" "_law_term" sLTerm f fd) (FC : Fun K "_law_call" "_law_call" sLCall fC fdC) (mF : mg "_law_term" = some (.ref f)) (mC : mg "_law_call" = some (.ref fC)) (bF : Binds K fd ["draw", "size", "names_here", "sort_here", "deep"] []) (bC : Binds K fdC ["draw", "size", "names_here", "sort_here", "deep"] [])
    (mDi : mg "dict" = none) (mLi : mg "list" = none) (mRg : mg "range" = none) (mS : mg "sorted" = none) (mTu : mg "tuple" = none) (GT : Has P w K mg base CX0 "_law_take" 2 ["draw", "amount"] spTake fT fdT) (GP : Has P w K mg base CX0 "_law_pick" 3 ["draw", "some"] (spPick K) fP fdP)
    (GL : Has P w K mg base CX0 "_law_leaf" 4 ["draw", "size", "names_here", "sort_here"] (spLLeaf K) fL fdL) : ∀ e : Nat, FnOk P w K mg base CX0 (5 + 2 * e) f fd ["draw", "size", "names_here", "sort_here", "deep"] (spLTerm K e)
  | 0 => ok_lterm (e := 0) F mF bF mDi mLi mRg GT GP GL ⟨mC, FC.kp, show FnOk P w K mg base CX0 (4 + 2 * 0) fC fdC ["draw", "size", "names_here", "sort_here", "deep"] (spLCallP K 0) from fnNever, bC⟩ (show FnOk P w K mg base CX0 (3 + 2 * 0) f fd ["draw", "size", "names_here", "sort_here", "deep"] (spLTermP K 0) from fnNever)
  | e + 1 => by
    have ih := term_all F FC mF mC bF bC mDi mLi mRg mS mTu GT GP GL e
    have gc := ok_lcall (e := e) FC mS mTu GP ⟨mF, F.kp, ih, bF⟩
    refine ok_lterm (e := e + 1) F mF bF mDi mLi mRg GT GP GL ⟨mC, FC.kp, ?_, bC⟩ ?_
    · rw [show 4 + 2 * (e + 1) = 5 + 2 * e + 1 by omega]
      exact gc
    · rw [show 3 + 2 * (e + 1) = 5 + 2 * e by omega]
      exact ih
/-- a drawn term of at most 60 nodes -/
def spLFine (K : PySem.W.Frag) : Sp := fun vs H Q _ => ∃ (d l c a : Addr) (n : Int) (nm : NmL) (g : Str), vs = [.ref d, .int n, .ref a, .str g, .int 3] ∧ In0 K H n nm d l c a ∧ nm.length ≤ 57 ∧ endB g = true ∧ Draws K n nm g 60 5 d l c H Q
theorem ok_lfine {f fT fN : Addr} {fd fdT fdN : FuncData} (F : Fun K "_law_fine_term" "_law_fine_term" sLFine f fd) (GT : Has P w K mg base CX0 "_law_term" 11 ["draw", "size", "names_here", "sort_here", "deep"] (spLTerm K 3) fT fdT) (GN : Has P w K mg base CX0 "_law_nodes" 6 ["term_here"] (spLNodes K 5) fN fdN) :
    FnOk P w K mg base CX0 12 f fd ["draw", "size", "names_here", "sort_here", "deep"] (spLFine K) := by
  refine F.ok scLFine (fun vs H Q E h => ?_) (fun cdv A outer s H vs Q E hr h => ?_)
  · obtain ⟨d, l, c, a, n, nm, g, rfl, _⟩ := h
    rfl
  · obtain ⟨d, l, c, a, n, nm, g, rfl, I, h60, hg, k⟩ := h
    have nd := scLFine.nd
    have hr6 := hr.mono (show 6 ≤ 11 by decide)
    refine ⟨_, pss_cons (ps_set (i := 5) nd rfl (Or.inl rfl) (pe_call GT.g hr rfl GT.m GT.kp GT.b .nil pass0 (pa_cons (pv 0) (pa_cons (pv 1) (pa_cons (pv 2) (pa_cons (pv 3) (pa_cons (pv 4) pa_nil)))))))
      (pss_one (ps_ret (pe_ifExp (pt_cmpR op_le (pe_call GN.g hr6 rfl GN.m GN.kp GN.b .nil pass0 (pa_cons (pv 5) pa_nil)) pe_int (nomark _)) (pv 5) (pe_ifExp (pt_cmpR op_eq (pv 3) pe_str (nomark _)) (pe_tup (pa_cons pe_str pa_nil)) (pe_tup (pa_cons pe_str (pa_cons pe_int pa_nil))))))), ?_⟩
    have hp : plainD (.str g) = true := by
      simp only [endB, Bool.or_eq_true, decide_eq_true_eq] at hg
      rcases hg with rfl | rfl <;> decide +kernel
    refine ⟨_, rfl, _, rfl, _, rfl, _, rfl, _, rfl, d, l, c, a, n, nm, g, rfl, I, by omega, hp, fun v H1 D1 B1 t1 => ?_⟩
    obtain ⟨dd, kk, h1, h2, h3, h4⟩ := t1
    have m3 : mostN 3 = 94 := by decide
    refine ⟨_, rfl, v, dd, n, nm, g, kk, rfl, h1, h3, by omega, fun H2 s2 => ?_⟩
    refine ⟨_, _, rfl, rfl, _, rfl, ?_⟩
    have k2 := k.later (B1.trans (But.of s2))
    have D2 := D1.same s2
    by_cases e60 : ((kk : Nat) : Int) ≤ 60
    · rw [decide_eq_true e60]
      exact iteT ⟨_, rfl, k2 v H2 D2 (But.refl _ _ _) ⟨dd, kk, dp_same s2 h1, h2, h3, by omega⟩⟩
    · rw [decide_eq_false e60]
      refine iteF ?_
      refine ⟨_, rfl, rfl, _, rfl, ?_⟩
      rw [dec_str]
      simp only [endB, Bool.or_eq_true, decide_eq_true_eq] at hg
      rcases hg with rfl | rfl
      · rw [show (("num" : Str) == "do") = false by decide +kernel]
        refine iteF ⟨by show 2 ≤ sizeLine; decide, fun t nt => ?_⟩
        have s3 := new_same (o := .tup [.str "number", .int 1]) nt
        have n2 := I.n2
        exact k2 _ _ (D2.same s3) (But.of s3) ((t_number (by decide) (by omega) upd_same).le (by decide) (by decide))
      · refine iteT ⟨by show 1 ≤ sizeLine; decide, fun t nt => ?_⟩
        have s3 := new_same (o := .tup [.str "skip"]) nt
        exact k2 _ _ (D2.same s3) (But.of s3) ((t_skip upd_same).le (by decide) (by decide))
end
end Jd
/-! A term with one part exchanged; where its sort goes wrong: by data. -/
namespace Jd
open PySem PySem.Spec PyProof.Rows L2 RZ
/-- the term with b in the place p -/
def withD : List Int → PyData → PyData → PyData
  | [], _, b => b
  | i :: p, .tuple ds, b => .tuple (ds.set i.toNat (withD p (ds.getD i.toNat .none) b))
  | _ :: _, d, _ => d
theorem along_nil (d : PyData) : alongD d [] = some d := by cases d <;> rfl
theorem along_cons {ds : List PyData} {i : Int} {p : List Int} {q : PyData} (h : alongD (.tuple ds) (i :: p) = some q) : ∃ (j : Nat) (d : PyData), i = (j : Int) ∧ ds[j]? = some d ∧ alongD d p = some q := by
  simp only [alongD] at h
  split at h
  · rename_i z
    obtain ⟨j, rfl⟩ := Int.eq_ofNat_of_zero_le z
    rw [Int.toNat_natCast] at h
    split at h
    · rename_i d hj
      exact ⟨j, d, rfl, hj, h⟩
    · cases h
  · cases h
theorem along_app : ∀ {p1 : List Int} {d q : PyData} {p2 : List Int}, alongD d p1 = some q → alongD d (p1 ++ p2) = alongD q p2
  | [], d, q, p2, h => by
    rw [along_nil] at h
    cases h
    rfl
  | i :: p1, d, q, p2, h => by
    cases d with
    | tuple ds =>
      obtain ⟨j, d, rfl, hj, h2⟩ := along_cons h
      rw [List.cons_append, along_nat hj, along_app h2]
    | _ => cases h
theorem with_app : ∀ {p1 : List Int} {d q b : PyData} {p2 : List Int}, alongD d p1 = some q → withD (p1 ++ p2) d b = withD p1 d (withD p2 q b)
  | [], d, q, b, p2, h => by
    rw [along_nil] at h
    cases h
    rfl
  | i :: p1, d, q, b, p2, h => by
    cases d with
    | tuple ds =>
      obtain ⟨j, d, rfl, hj, h2⟩ := along_cons h
      have e : ds.getD (j : Int).toNat .none = d := by
        rw [Int.toNat_natCast, List.getD_eq_getElem?_getD, hj]
        rfl
      rw [List.cons_append]
      simp only [withD]
      rw [e, with_app h2]
    | _ => cases h
theorem along_with : ∀ {p : List Int} {d q b : PyData}, alongD d p = some q → alongD (withD p d b) p = some b
  | [], d, q, b, _ => along_nil b
  | i :: p, d, q, b, h => by
    cases d with
    | tuple ds =>
      obtain ⟨j, d, rfl, hj, h2⟩ := along_cons h
      have e : ds.getD (j : Int).toNat .none = d := by
        rw [Int.toNat_natCast, List.getD_eq_getElem?_getD, hj]
        rfl
      simp only [withD]
      rw [e, Int.toNat_natCast]
      have hl := (List.getElem?_eq_some_iff.mp hj).1
      rw [along_nat (by rw [List.getElem?_set_self hl])]
      exact along_with h2
    | _ => cases h
/-- what the shape says of a word but "name" -/
theorem form_at {n : Int} {l : NmL} {x : Str} {r : List PyData} {ws : List Str} (h : formD n l (.tuple (.str x :: r)) = true) (e1 : x ≠ "name") (ef : forms.lookup x = some ws) : r.length = ws.length ∧ ∀ (j : Nat) (wd : Str) (t : PyData), ws[j]? = some wd → r[j]? = some t → thingD n wd t = true := by
  simp only [formD] at h
  rw [if_neg e1, ef] at h
  obtain ⟨hlen, hall⟩ := (Bool.and_eq_true _ _).mp h
  refine ⟨by simpa using hlen, fun j wd t h1 h2 => ?_⟩
  rw [List.all_eq_true] at hall
  exact hall (wd, t) (List.mem_of_getElem? (i := j) (by rw [List.getElem?_zip_eq_some]; exact ⟨h1, h2⟩))
theorem form_word_ex {n : Int} {l : NmL} {x : Str} {r : List PyData} (h : formD n l (.tuple (.str x :: r)) = true) (e1 : x ≠ "name") : ∃ ws, forms.lookup x = some ws := by
  simp only [formD] at h
  rw [if_neg e1] at h
  cases ef : forms.lookup x with
  | none => rw [ef] at h; cases h
  | some ws => exact ⟨ws, rfl⟩
/-- what a term is behind an exchange of its i-th part -/
structure RepOk (n : Int) (l : NmL) (ds : List PyData) (ps : List (List Int)) (i : Nat) (pth : List Int) (x : PyData) (ds' : List PyData) : Prop where
  eq : withD pth (.tuple ds) x = .tuple ds'
  form : formD n l (.tuple ds') = true
  paths : pathsD ds' = some ps
  want : wantedD l ds' = wantedD l ds
  inner : ∀ k : Int, innerD l ds' k = innerD l ds k
  here : alongD (.tuple ds') pth = some x
  else_ : ∀ (i' : Nat) (p' : List Int), i' ≠ i → ps[i']? = some p' → alongD (.tuple ds') p' = alongD (.tuple ds) p'
theorem flat_tab : ∀ q ∈ forms, (q.1 = "number" ∨ q.1 = "skip" ∨ q.1 = "never") ∨ q.1 = "made" ∨ q.1 = "new" ∨ q.2.all isTermB = true := by decide +kernel
theorem ints_at {m i : Nat} {pth : List Int} (h : (((List.range m).map fun i => ((i + 1 : Nat) : Int)).map fun i => [i])[i]? = some pth) : i < m ∧ pth = [((i + 1 : Nat) : Int)] := by
  rw [List.getElem?_map, List.getElem?_map] at h
  cases er : (List.range m)[i]? with
  | none => rw [er] at h; cases h
  | some j =>
    rw [er] at h
    obtain ⟨hj, rfl⟩ := List.getElem?_eq_some_iff.mp er
    rw [List.getElem_range] at h
    cases h
    rw [List.length_range] at hj
    exact ⟨hj, rfl⟩
theorem along_set {ds : List PyData} {j k : Nat} {x : PyData} (h : k ≠ j) (r : List Int) : alongD (.tuple (ds.set j x)) ((k : Int) :: r) = alongD (.tuple ds) ((k : Int) :: r) := by
  simp only [alongD]
  rw [if_pos (by omega), if_pos (by omega), Int.toNat_natCast, List.getElem?_set_ne h.symm]
theorem rep {n : Int} {l : NmL} {ds : List PyData} {ps : List (List Int)} {i : Nat} {pth : List Int} (x : PyData) (form : formD n l (.tuple ds) = true) (paths : pathsD ds = some ps) (hp : ps[i]? = some pth) : ∃ ds', RepOk n l ds ps i pth x ds' := by
  match ds, form with
  | .str w :: r, form =>
    by_cases e1 : w = "name"
    · subst e1
      simp only [pathsD, if_true] at paths
      match r, paths with
      | [a, .tuple as], paths =>
        cases paths
        rw [List.getElem?_map] at hp
        cases er : (List.range as.length)[i]? with
        | none => rw [er] at hp; cases hp
        | some j =>
          rw [er] at hp
          obtain ⟨hj, rfl⟩ := List.getElem?_eq_some_iff.mp er
          rw [List.getElem_range] at hp
          cases hp
          rw [List.length_range] at hj
          have s2 := along_nat (ds := [.str "name", a, .tuple as]) (j := 2) (d := .tuple as) rfl
          have t2 := along_nat (ds := [.str "name", a, .tuple (as.set i x)]) (j := 2) (d := .tuple (as.set i x)) rfl
          refine ⟨[.str "name", a, .tuple (as.set i x)], ?_, ?_, ?_, ?_, fun k => ?_, ?_, fun i' p' ne h' => ?_⟩
          · show PyData.tuple _ = _
            rfl
          · simp only [formD, if_true] at form ⊢
            cases a <;> simp only [useD, List.length_set] at form ⊢ <;> first | exact form | cases form
          · simp [pathsD]
          · cases a <;> simp [wantedD]
          · unfold innerD givesD
            simp
            try rfl
          · refine (t2 [((i : Nat) : Int)]).trans ?_
            rw [along_nat (d := x) (by rw [List.getElem?_set_self hj])]
            exact along_nil x
          · rw [List.getElem?_map] at h'
            cases er' : (List.range as.length)[i']? with
            | none => rw [er'] at h'; cases h'
            | some j' =>
              rw [er'] at h'
              obtain ⟨hj', rfl⟩ := List.getElem?_eq_some_iff.mp er'
              rw [List.getElem_range] at h'
              cases h'
              refine (t2 _).trans (Eq.trans ?_ (s2 _).symm)
              exact along_set ne []
    · obtain ⟨ws, ef⟩ := form_word_ex form e1
      obtain ⟨lr, things⟩ := form_at form e1 ef
      have pt : (partsT.lookup w).map (fun ps => ps.map fun i => [i]) = some ps := by
        have z := paths
        simp only [pathsD] at z
        rw [if_neg e1] at z
        exact z
      have pp : ∀ r', pathsD (.str w :: r') = some ps := fun r' => by
        simp only [pathsD]
        rw [if_neg e1]
        exact pt
      obtain ⟨_, h⟩ := parts_tab (w, ws) (PySem.mem_of_lookup ef)
      simp only at h
      rcases h with ⟨h1, h2⟩ | ⟨h1, h2, h3⟩ | ⟨h1, h2, h3⟩ | ⟨h0, h1, h2, h3⟩
      · rw [h2] at pt
        cases pt
        simp at hp
      · rw [h3] at pt
        cases pt
        subst h1
        rw [show forms.lookup ("made" : Str) = some (["num", "word", "do"] : List Str) by decide +kernel] at ef
        cases ef
        match r, lr with
        | [a, b, c], _ =>
          have fw : ∀ (a' c' : PyData), formD n l (.tuple [.str "made", a', b, c']) = true := fun a' c' => form_word e1 (ws := ["num", "word", "do"]) (by decide +kernel) rfl fun j wd t y1 y2 => by
            match j, y1, y2 with
            | 0, y1, y2 => cases y1; exact thing_term (by decide +kernel) _
            | 1, y1, y2 => cases y1; cases y2; exact things 1 "word" b rfl rfl
            | 2, y1, y2 => cases y1; exact thing_term (by decide +kernel) _
            | j + 3, y1, y2 => simp at y1
          have inn : ∀ (a' c' : PyData) (k : Int), innerD l [.str "made", a', b, c'] k = innerD l [.str "made", a, b, c] k := fun a' c' k => by
            unfold innerD givesD inS
            cases b <;> rfl
          have wan : ∀ (a' c' : PyData), wantedD l [.str "made", a', b, c'] = wantedD l [.str "made", a, b, c] := fun a' c' => rfl
          match i, hp with
          | 0, hp =>
            cases hp
            refine ⟨[.str "made", x, b, c], rfl, fw _ _, pp _, wan _ _, fun k => inn _ _ k, ?_, fun i' p' ne h' => ?_⟩
            · exact (along_nat (j := 1) (d := x) rfl []).trans (along_nil x)
            · match i', ne, h' with
              | 0, ne, h' => exact absurd rfl ne
              | 1, ne, h' => cases h'; exact along_set (ds := [.str "made", a, b, c]) (j := 1) (k := 3) (x := x) (by decide) []
              | i' + 2, ne, h' => simp at h'
          | 1, hp =>
            cases hp
            refine ⟨[.str "made", a, b, x], rfl, fw _ _, pp _, wan _ _, fun k => inn _ _ k, ?_, fun i' p' ne h' => ?_⟩
            · exact (along_nat (j := 3) (d := x) rfl []).trans (along_nil x)
            · match i', ne, h' with
              | 1, ne, h' => exact absurd rfl ne
              | 0, ne, h' => cases h'; exact along_set (ds := [.str "made", a, b, c]) (j := 3) (k := 1) (x := x) (by decide) []
              | i' + 2, ne, h' => simp at h'
          | i + 2, hp => simp at hp
      · rw [h3] at pt
        cases pt
        subst h1
        rw [show forms.lookup ("new" : Str) = some (["word", "figure", "some"] : List Str) by decide +kernel] at ef
        cases ef
        match r, lr with
        | [a, b, c], _ =>
          have fw : ∀ (c' : PyData), formD n l (.tuple [.str "new", a, b, c']) = true := fun c' => form_word e1 (ws := ["word", "figure", "some"]) (by decide +kernel) rfl fun j wd t y1 y2 => by
            match j, y1, y2 with
            | 0, y1, y2 => cases y1; cases y2; exact things 0 "word" a rfl rfl
            | 1, y1, y2 => cases y1; cases y2; exact things 1 "figure" b rfl rfl
            | 2, y1, y2 => cases y1; exact thing_term (by decide +kernel) _
            | j + 3, y1, y2 => simp at y1
          have inn : ∀ (c' : PyData) (k : Int), innerD l [.str "new", a, b, c'] k = innerD l [.str "new", a, b, c] k := fun c' k => by
            unfold innerD givesD inS
            cases a <;> rfl
          match i, hp with
          | 0, hp =>
            cases hp
            refine ⟨[.str "new", a, b, x], rfl, fw _, pp _, rfl, fun k => inn _ k, ?_, fun i' p' ne h' => ?_⟩
            · exact (along_nat (j := 3) (d := x) rfl []).trans (along_nil x)
            · match i', ne, h' with
              | 0, ne, h' => exact absurd rfl ne
              | i' + 1, ne, h' => simp at h'
          | i + 1, hp => simp at hp
      · rw [h3] at pt
        cases pt
        obtain ⟨hi, rfl⟩ := ints_at hp
        have al : ws.all isTermB = true := by
          rcases flat_tab (w, ws) (PySem.mem_of_lookup ef) with z | z | z | z
          · exact absurd z h0
          · exact absurd z h1
          · exact absurd z h2
          · exact z
        have al' : ∀ wd ∈ ws, isTermB wd = true := List.all_eq_true.mp al
        have giv : ∀ (r' : List PyData) (k : Int), givesD (.str w :: r') k = none := fun r' k => by
          simp only [givesD]
          rw [if_neg h2, if_neg (fun z => h1 z.1)]
        refine ⟨.str w :: r.set i x, ?_, ?_, pp _, ?_, fun k => ?_, ?_, fun i' p' ne h' => ?_⟩
        · show PyData.tuple _ = _
          simp only [Int.toNat_natCast, List.set_cons_succ]
          rfl
        · exact form_word e1 ef (by rw [List.length_set]; exact lr) fun j wd t y1 _ => thing_term (al' _ (List.mem_of_getElem? y1)) t
        · rw [wanted_word e1 ef, wanted_word e1 ef]
        · unfold innerD
          rw [giv, giv]
        · refine (along_nat (j := i + 1) (d := x) ?_ []).trans (along_nil x)
          rw [List.getElem?_cons_succ, List.getElem?_set_self (by omega)]
        · obtain ⟨hi', rfl⟩ := ints_at h'
          exact along_set (ds := .str w :: r) (j := i + 1) (k := i' + 1) (x := x) (by omega) []
end Jd
/-! Where a spoilt term's sort goes wrong: by data. -/
namespace Jd
open PySem PySem.Spec PyProof.Rows L2 RZ
/-- the first i parts are right: their sorts, their nodes -/
inductive Aheads (n : Int) (l : NmL) (ds : List PyData) (ps : List (List Int)) (h : Nat) : Nat → List Str → Nat → Prop
  | nil : Aheads n l ds ps h 0 [] 0
  | snoc {i : Nat} {ss : List Str} {m : Nat} {p : List Int} {q : PyData} {s : Str} {k : Nat} (a : Aheads n l ds ps h i ss m) (hp : ps[i]? = some p) (al : alongD (.tuple ds) p = some q) (t : Typ n (innerD l ds (i : Nat)) q s k h) (w : isWantedD s ((wantedD l ds).getD i "") ss = true) : Aheads n l ds ps h (i + 1) (ss ++ [s]) (m + k)
theorem Aheads.go {n : Int} {l : NmL} {ds : List PyData} {ps : List (List Int)} {h i : Nat} {ss : List Str} {m : Nat} (a : Aheads n l ds ps h i ss m) {j : Nat} (hj : h ≤ j) (at_ : List Int) (c : Int) (hc : c + (m : Nat) ≤ 60) :
    goM (sortM n j) l ds at_ (wantedD l ds) ps 0 [] c = goM (sortM n j) l ds at_ (wantedD l ds) (ps.drop i) i ss (c + (m : Nat)) := by
  induction a with
  | nil => simp
  | @snoc i ss m p q s k a hp al t w ih =>
    rw [ih (by omega)]
    have hi := (List.getElem?_eq_some_iff.mp hp).1
    rw [List.drop_eq_getElem_cons hi, (List.getElem?_eq_some_iff.mp hp).2]
    rw [goM]
    rw [al]
    dsimp only
    rw [t.sort j _ (c + (m : Nat)) hj (by omega)]
    dsimp only
    rw [w, if_pos rfl]
    rw [show c + (m : Nat) + (k : Nat) = c + ((m + k : Nat) : Int) by omega]
theorem Aheads.rep {n : Int} {l : NmL} {ds ds' : List PyData} {ps : List (List Int)} {h i i0 : Nat} {ss : List Str} {m : Nat} {pth : List Int} {x : PyData} (a : Aheads n l ds ps h i ss m) (R : RepOk n l ds ps i0 pth x ds') (hi : i ≤ i0) : Aheads n l ds' ps h i ss m := by
  induction a with
  | nil => exact .nil
  | @snoc i ss m p q s k a hp al t w ih =>
    exact .snoc (ih (by omega)) hp ((R.else_ i p (by omega) hp).trans al) (by rw [R.inner]; exact t) (by rw [R.want]; exact w)
theorem Aheads.of {n : Int} {l : NmL} {ds : List PyData} {ps : List (List Int)} {h : Nat} {qs : List PyData} {ss : List Str} {ks : List Nat} (lq : qs.length = ps.length) (ls : ss.length = ps.length) (lk : ks.length = ps.length) (along : ∀ (i : Nat) (p : List Int) (q : PyData), ps[i]? = some p → qs[i]? = some q → alongD (.tuple ds) p = some q)
    (want : ∀ (i : Nat) (s : Str), ss[i]? = some s → isWantedD s ((wantedD l ds).getD i "") (ss.take i) = true) (parts : ∀ (i : Nat) (q : PyData) (s : Str) (k : Nat), qs[i]? = some q → ss[i]? = some s → ks[i]? = some k → Typ n (innerD l ds (i : Nat)) q s k h) :
    ∀ i : Nat, i ≤ ps.length → Aheads n l ds ps h i (ss.take i) (ks.take i).sum
  | 0, _ => by simpa using Aheads.nil
  | i + 1, hi => by
    have hp := List.getElem?_eq_getElem (show i < ps.length by omega)
    have hq := List.getElem?_eq_getElem (show i < qs.length by omega)
    have hs := List.getElem?_eq_getElem (show i < ss.length by omega)
    have hk := List.getElem?_eq_getElem (show i < ks.length by omega)
    have z := Aheads.snoc (Aheads.of lq ls lk along want parts i (by omega)) hp (along i _ _ hp hq) (parts i _ _ _ hq hs hk) (want i _ hs)
    have e1 : (ks.take (i + 1)).sum = (ks.take i).sum + ks[i] := by
      rw [List.take_add_one, hk, List.sum_append]
      simp
    have e2 : ss.take (i + 1) = ss.take i ++ [ss[i]] := by rw [List.take_add_one, hs]; rfl
    rw [e1, e2]
    exact z
theorem take_sum {ks : List Nat} {i k : Nat} (h : ks[i]? = some k) : (ks.take i).sum + k ≤ ks.sum := by
  have e := congrArg List.sum (List.take_append_drop i ks)
  rw [List.sum_append] at e
  have hi := (List.getElem?_eq_some_iff.mp h).1
  rw [List.drop_eq_getElem_cons hi, List.sum_cons, (List.getElem?_eq_some_iff.mp h).2] at e
  omega
/-- no term at all -/
def Wrong (n : Int) (l : NmL) (b : PyData) : Prop := ∀ (j : Nat) (at_ : List Int) (c : Int), sortM n j l b at_ c = .error at_
theorem wrong_form {n : Int} {l : NmL} {b : PyData} (h : formD n l b = false) : Wrong n l b := fun j at_ c => by
  cases j with
  | zero => rfl
  | succ j =>
    unfold sortM
    by_cases hc : 60 < c + 1
    · rw [if_pos hc]
    · rw [if_neg hc, if_pos h]
/-- a term of another sort than wanted, if it is one -/
def Mis (n : Int) (l : NmL) (wd : Str) (b : PyData) : Prop := ∀ (j : Nat) (at_ : List Int) (c : Int), sortM n j l b at_ c = .error at_ ∨ ∃ s c', sortM n j l b at_ c = .ok (s, c') ∧ ∀ ahead, isWantedD s wd ahead = false
theorem mis_typ {n : Int} {l : NmL} {wd g : Str} {b : PyData} (t : Typ n l b g 1 1) (w : ∀ ahead, isWantedD g wd ahead = false) : Mis n l wd b := fun j at_ c => by
  cases j with
  | zero => exact .inl rfl
  | succ j =>
    by_cases hc : c + 1 ≤ 60
    · exact .inr ⟨g, _, t.sort (j + 1) at_ c (by omega) hc, w⟩
    · refine .inl ?_
      unfold sortM
      rw [if_pos (by omega)]
/-- a term that goes wrong at p, with m nodes ahead -/
inductive Spo (n : Int) : NmL → PyData → List Int → Nat → Nat → Prop
  | here {l : NmL} {b : PyData} {h : Nat} (w : Wrong n l b) : Spo n l b [] 0 h
  | deep {l : NmL} {ds : List PyData} {ps : List (List Int)} {i : Nat} {pth : List Int} {q : PyData} {p : List Int} {m m' h : Nat} {ss : List Str} (form : formD n l (.tuple ds) = true) (paths : pathsD ds = some ps) (hp : ps[i]? = some pth) (al : alongD (.tuple ds) pth = some q)
      (a : Aheads n l ds ps h i ss m) (t : Spo n (innerD l ds (i : Nat)) q p m' h) : Spo n l (.tuple ds) (pth ++ p) (1 + m + m') (h + 1)
  | mis {l : NmL} {ds : List PyData} {ps : List (List Int)} {i : Nat} {pth : List Int} {q : PyData} {m h : Nat} {ss : List Str} (form : formD n l (.tuple ds) = true) (paths : pathsD ds = some ps) (hp : ps[i]? = some pth) (al : alongD (.tuple ds) pth = some q)
      (a : Aheads n l ds ps h i ss m) (t : Mis n (innerD l ds (i : Nat)) ((wantedD l ds).getD i "") q) : Spo n l (.tuple ds) pth (1 + m) (h + 1)
theorem Spo.err {n : Int} {l : NmL} {e : PyData} {p : List Int} {m h : Nat} (s : Spo n l e p m h) : ∀ (j : Nat) (at_ : List Int) (c : Int), h ≤ j → c + (m : Nat) ≤ 60 → sortM n j l e at_ c = .error (at_ ++ p) := by
  induction s with
  | here w =>
    intro j at_ c _ _
    rw [List.append_nil]
    exact w j at_ c
  | @deep l ds ps i pth q p m m' h ss form paths hp al a t ih =>
    intro j at_ c hj hc
    cases j with
    | zero => omega
    | succ j =>
      refine sortM_err (by omega) form paths ?_
      rw [a.go (by omega) at_ (c + 1) (by omega)]
      have hi := (List.getElem?_eq_some_iff.mp hp).1
      rw [List.drop_eq_getElem_cons hi, (List.getElem?_eq_some_iff.mp hp).2]
      refine goM_err al ?_
      rw [ih j (at_ ++ pth) (c + 1 + (m : Nat)) (by omega) (by omega), List.append_assoc]
  | @mis l ds ps i pth q m h ss form paths hp al a t =>
    intro j at_ c hj hc
    cases j with
    | zero => omega
    | succ j =>
      refine sortM_err (by omega) form paths ?_
      rw [a.go (by omega) at_ (c + 1) (by omega)]
      have hi := (List.getElem?_eq_some_iff.mp hp).1
      rw [List.drop_eq_getElem_cons hi, (List.getElem?_eq_some_iff.mp hp).2]
      rcases t j (at_ ++ pth) (c + 1 + (m : Nat)) with z | ⟨s, c', z, w⟩
      · exact goM_err al z
      · unfold goM
        rw [al]
        dsimp only
        rw [z]
        dsimp only
        rw [w ss]
        rfl
abbrev W3 (wd : Str) : Prop := wd = "num" ∨ wd = "do" ∨ wd = "box"
/-- a place of a term: what sort is wanted there, if the law tells it; the names there -/
inductive Pl : NmL → PyData → List Int → Option Str → NmL → Prop
  | nil {l : NmL} {d : PyData} : Pl l d [] none l
  | cons {l : NmL} {ds : List PyData} {ps : List (List Int)} {i : Nat} {pth : List Int} {q : PyData} {p : List Int} {w : Option Str} {l' : NmL} (paths : pathsD ds = some ps) (hp : ps[i]? = some pth) (al : alongD (.tuple ds) pth = some q) (t : Pl (innerD l ds (i : Nat)) q p w l') : Pl l (.tuple ds) (pth ++ p) w l'
  | last {l : NmL} {ds : List PyData} {ps : List (List Int)} {i : Nat} {pth : List Int} {q : PyData} {wd : Str} (paths : pathsD ds = some ps) (hp : ps[i]? = some pth) (al : alongD (.tuple ds) pth = some q) (want : (wantedD l ds)[i]? = some wd) (w3 : W3 wd) : Pl l (.tuple ds) pth (some wd) (innerD l ds (i : Nat))
/-- what goes wrong there -/
def BadAt (n : Int) (l : NmL) (w : Option Str) (b : PyData) : Prop := Wrong n l b ∨ ∃ wd, w = some wd ∧ Mis n l wd b
/-- the tuple q stands behind p in Python's order, and does not begin with it -/
def gtL : List Int → List Int → Bool
  | [], _ => false
  | _ :: _, [] => true
  | x :: xs, y :: ys => if x = y then gtL xs ys else decide (y < x)
def Beh (q p : List Int) : Prop := gtL q p = true ∧ q.take p.length ≠ p
theorem Beh.cons {x : Int} {q p : List Int} (h : Beh (x :: q) (x :: p)) : Beh q p := by
  obtain ⟨h1, h2⟩ := h
  simp only [gtL, if_true] at h1
  refine ⟨h1, fun z => h2 ?_⟩
  rw [List.length_cons, List.take_succ_cons, z]
theorem Beh.app {r q p : List Int} (h : Beh (r ++ q) (r ++ p)) : Beh q p := by
  induction r with
  | nil => exact h
  | cons x r ih => exact ih h.cons
theorem Beh.nil {q : List Int} (h : Beh q []) : False := h.2 rfl
theorem Beh.pre {r q : List Int} (h : Beh (r ++ q) r) : False := h.2 (by simp)
theorem Beh.none {p : List Int} (h : Beh [] p) : False := by
  have := h.1
  simp [gtL] at this
/-- of two parts' paths the later one's is greater -/
def upB (ps : List (List Int)) : Prop := ∀ (i j : Nat) (p q r s : List Int), ps[i]? = some p → ps[j]? = some q → Beh (q ++ s) (p ++ r) → i ≤ j
theorem up_tab : ∀ e ∈ partsT, ∀ i ∈ List.range e.2.length, ∀ j ∈ List.range e.2.length, e.2.getD j 0 ≥ e.2.getD i 0 → i ≤ j := by decide +kernel
theorem beh_head {x y : Int} {s r : List Int} (h : Beh (x :: s) (y :: r)) : y ≤ x := by
  have := h.1
  simp only [gtL] at this
  split at this
  · omega
  · have := of_decide_eq_true this
    omega
theorem paths_up {ds : List PyData} {ps : List (List Int)} (h : pathsD ds = some ps) : upB ps := by
  intro i j p q r s hi hj b
  match ds, h with
  | .str x :: rr, h =>
    by_cases e1 : x = "name"
    · subst e1
      simp only [pathsD, if_true] at h
      split at h
      · rename_i as
        cases h
        rw [List.getElem?_map] at hi hj
        cases ei : (List.range as.length)[i]? with
        | none => rw [ei] at hi; cases hi
        | some i' =>
        cases ej : (List.range as.length)[j]? with
        | none => rw [ej] at hj; cases hj
        | some j' =>
        rw [ei] at hi
        rw [ej] at hj
        obtain ⟨_, rfl⟩ := List.getElem?_eq_some_iff.mp ei
        obtain ⟨_, rfl⟩ := List.getElem?_eq_some_iff.mp ej
        rw [List.getElem_range] at hi hj
        cases hi
        cases hj
        have z := beh_head (Beh.cons b)
        omega
      · cases h
    · simp only [pathsD] at h
      rw [if_neg e1] at h
      cases ep : partsT.lookup x with
      | none => rw [ep] at h; cases h
      | some is =>
        rw [ep] at h
        cases h
        rw [List.getElem?_map] at hi hj
        cases ei : is[i]? with
        | none => rw [ei] at hi; cases hi
        | some i' =>
        cases ej : is[j]? with
        | none => rw [ej] at hj; cases hj
        | some j' =>
        rw [ei] at hi
        rw [ej] at hj
        cases hi
        cases hj
        have z := beh_head b
        have mi := (List.getElem?_eq_some_iff.mp ei).1
        have mj := (List.getElem?_eq_some_iff.mp ej).1
        refine up_tab (x, is) (PySem.mem_of_lookup ep) i (List.mem_range.mpr mi) j (List.mem_range.mpr mj) ?_
        simp only [List.getD_eq_getElem?_getD, ei, ej, Option.getD_some]
        exact z
theorem Pl.along {l : NmL} {d : PyData} {p : List Int} {w : Option Str} {l' : NmL} (h : Pl l d p w l') : ∃ q, alongD d p = some q := by
  induction h with
  | nil => exact ⟨_, along_nil _⟩
  | cons paths hp al t ih =>
    obtain ⟨q, e⟩ := ih
    exact ⟨q, (along_app al).trans e⟩
  | last paths hp al want _ => exact ⟨_, al⟩
/-- a term with a wrong piece at a place goes wrong there; whatever stands at a place behind -/
theorem spoilt {n : Int} {l : NmL} {d : PyData} {g : Str} {k h : Nat} (t : Typ n l d g k h) {p : List Int} {w : Option Str} {l' : NmL} (pl : Pl l d p w l') {b : PyData} (hb : BadAt n l' w b) (hw : w = none → Wrong n l' b) :
    ∃ m, m + 1 ≤ k ∧ Spo n l (withD p d b) p m h ∧ ∀ (q : List Int) (w2 : Option Str) (l2 : NmL) (x : PyData), Pl l d q w2 l2 → Beh q p → Spo n l (withD q (withD p d b) x) p m h := by
  induction pl generalizing g k h with
  | @nil l d => exact ⟨0, t.pos.1, .here (hw rfl), fun q w2 l2 x _ z => absurd z fun z => z.nil⟩
  | @cons l ds ps i pth q0 p w l' paths hp al pl ih =>
    obtain @⟨_, _, ps', _, h, qs, ss, ks, form, paths', given, lq, ls, lk, along, want, parts⟩ := t
    rw [paths] at paths'
    cases paths'
    have hi := (List.getElem?_eq_some_iff.mp hp).1
    have hq := List.getElem?_eq_getElem (show i < qs.length by omega)
    have hs := List.getElem?_eq_getElem (show i < ss.length by omega)
    have hk := List.getElem?_eq_getElem (show i < ks.length by omega)
    have eq0 : qs[i] = q0 := by
      have z := along i _ _ hp hq
      rw [al] at z
      exact (Option.some.inj z).symm
    obtain ⟨m', hm', sp, spl⟩ := ih (eq0 ▸ parts i _ _ _ hq hs hk) hb hw
    have ah := Aheads.of lq ls lk along want parts i (by omega)
    have ts := take_sum hk
    have build : ∀ (ds2 : List PyData) (y : PyData), formD n l (.tuple ds2) = true → pathsD ds2 = some ps → alongD (.tuple ds2) pth = some y → Aheads n l ds2 ps h i (ss.take i) (ks.take i).sum → Spo n (innerD l ds2 (i : Nat)) y p m' h → Spo n l (.tuple ds2) (pth ++ p) (1 + (ks.take i).sum + m') (h + 1) :=
      fun ds2 y f1 f2 f3 f4 f5 => .deep f1 f2 hp f3 f4 f5
    refine ⟨1 + (ks.take i).sum + m', by omega, ?_, fun q w2 l2 x pl2 be => ?_⟩
    · rw [with_app al]
      obtain ⟨ds1, R⟩ := rep (withD p q0 b) form paths hp
      rw [R.eq]
      exact build ds1 _ R.form R.paths R.here (ah.rep R (Nat.le_refl _)) (by rw [R.inner]; exact sp)
    · rw [with_app al]
      obtain ⟨ds1, R⟩ := rep (withD p q0 b) form paths hp
      rw [R.eq]
      have fin : ∀ (j : Nat) (pthj : List Int) (qj : PyData) (q' : List Int), ps[j]? = some pthj → alongD (.tuple ds) pthj = some qj → q = pthj ++ q' → (∀ e : i = j, ∃ w3 l3, Pl (innerD l ds (i : Nat)) q0 q' w3 l3) → Spo n l (withD q (.tuple ds1) x) (pth ++ p) (1 + (ks.take i).sum + m') (h + 1) := by
        intro j pthj qj q' hpj alj eq hij
        subst eq
        have le := paths_up paths i j pth pthj p q' hp hpj be
        by_cases e : i = j
        · obtain ⟨w3, l3, pl3⟩ := hij e
          subst e
          rw [hp] at hpj
          cases hpj
          rw [with_app R.here]
          obtain ⟨ds2, R2⟩ := rep (withD q' (withD p q0 b) x) R.form R.paths hp
          rw [R2.eq]
          refine build ds2 _ R2.form R2.paths R2.here ((ah.rep R (Nat.le_refl _)).rep R2 (Nat.le_refl _)) ?_
          rw [R2.inner, R.inner]
          exact spl q' w3 l3 x pl3 be.app
        · have al1 : alongD (.tuple ds1) pthj = some qj := (R.else_ j pthj (by omega) hpj).trans alj
          rw [with_app al1]
          obtain ⟨ds2, R2⟩ := rep (withD q' qj x) R.form R.paths hpj
          rw [R2.eq]
          refine build ds2 _ R2.form R2.paths ((R2.else_ i pth e hp).trans R.here) ((ah.rep R (Nat.le_refl _)).rep R2 (by omega)) ?_
          rw [R2.inner, R.inner]
          exact sp
      cases pl2 with
      | nil => exact absurd be fun z => z.none
      | @cons _ _ ps2 j pthj qj q' _ _ paths2 hpj alj pl3 =>
        rw [paths] at paths2
        cases paths2
        refine fin j pthj qj q' hpj alj rfl fun e => ?_
        subst e
        rw [hp] at hpj
        cases hpj
        rw [al] at alj
        cases alj
        exact ⟨_, _, pl3⟩
      | @last _ _ ps2 j pthj qj wd2 paths2 hpj alj want2 _ =>
        rw [paths] at paths2
        cases paths2
        refine fin j q qj [] hpj alj (List.append_nil _).symm fun e => ?_
        exact ⟨_, _, .nil⟩
  | @last l ds ps i pth q0 wd paths hp al want0 _ =>
    obtain @⟨_, _, ps', _, h, qs, ss, ks, form, paths', given, lq, ls, lk, along, want, parts⟩ := t
    rw [paths] at paths'
    cases paths'
    have hi := (List.getElem?_eq_some_iff.mp hp).1
    have hk := List.getElem?_eq_getElem (show i < ks.length by omega)
    have kpos : 1 ≤ ks[i] := (parts i _ _ _ (List.getElem?_eq_getElem (show i < qs.length by omega)) (List.getElem?_eq_getElem (show i < ss.length by omega)) hk).pos.1
    have ah := Aheads.of lq ls lk along want parts i (by omega)
    have ts := take_sum hk
    have gd : (wantedD l ds).getD i "" = wd := by rw [List.getD_eq_getElem?_getD, want0]; rfl
    have build : ∀ (ds2 : List PyData), formD n l (.tuple ds2) = true → pathsD ds2 = some ps → alongD (.tuple ds2) pth = some b → Aheads n l ds2 ps h i (ss.take i) (ks.take i).sum → innerD l ds2 (i : Nat) = innerD l ds (i : Nat) → wantedD l ds2 = wantedD l ds → Spo n l (.tuple ds2) pth (1 + (ks.take i).sum) (h + 1) :=
      fun ds2 f1 f2 f3 f4 f5 f6 => by
        rcases hb with z | ⟨wd', e, z⟩
        · have y := Spo.deep f1 f2 hp f3 f4 (p := []) (m' := 0) (.here (by rw [f5]; exact z))
          rw [List.append_nil] at y
          exact y
        · cases e
          exact .mis f1 f2 hp f3 f4 (by rw [f5, f6, gd]; exact z)
    obtain ⟨ds1, R⟩ := rep b form paths hp
    rw [R.eq]
    refine ⟨1 + (ks.take i).sum, by omega, build ds1 R.form R.paths R.here (ah.rep R (Nat.le_refl _)) (R.inner _) R.want, fun q w2 l2 x pl2 be => ?_⟩
    have fin : ∀ (j : Nat) (pthj : List Int) (qj : PyData) (q' : List Int), ps[j]? = some pthj → alongD (.tuple ds) pthj = some qj → q = pthj ++ q' → Spo n l (withD q (.tuple ds1) x) pth (1 + (ks.take i).sum) (h + 1) := by
      intro j pthj qj q' hpj alj eq
      subst eq
      have le := paths_up paths i j pth pthj [] q' hp hpj (by rw [List.append_nil]; exact be)
      by_cases e : i = j
      · subst e
        rw [hp] at hpj
        cases hpj
        exact absurd be fun z => z.pre
      · have al1 : alongD (.tuple ds1) pthj = some qj := (R.else_ j pthj (by omega) hpj).trans alj
        rw [with_app al1]
        obtain ⟨ds2, R2⟩ := rep (withD q' qj x) R.form R.paths hpj
        rw [R2.eq]
        exact build ds2 R2.form R2.paths ((R2.else_ i pth e hp).trans R.here) ((ah.rep R (Nat.le_refl _)).rep R2 (by omega)) ((R2.inner _).trans (R.inner _)) (R2.want.trans R.want)
    cases pl2 with
    | nil => exact absurd be fun z => z.none
    | @cons _ _ ps2 j pthj qj q' _ _ paths2 hpj alj pl3 =>
      rw [paths] at paths2
      cases paths2
      exact fin j pthj qj q' hpj alj rfl
    | @last _ _ ps2 j pthj qj wd2 paths2 hpj alj want2 _ =>
      rw [paths] at paths2
      cases paths2
      exact fin j q qj [] hpj alj (List.append_nil _).symm
end Jd
/-! Values beside the drawing dict; tuples of ints compared; _law_piece and _law_with of law_k03. -/
namespace Jd
open PySem PySem.Spec PyProof.Rows L2 RZ Dk
/-- the heap without the drawing dict and its first list -/
def Cut (H : Hp) (d l : Addr) : Hp := fun b => if b = d ∨ b = l then none else H b
section
variable {K : PySem.W.Frag} {H H' : Hp} {d l c : Addr}
theorem cut_sub : Same (Cut H d l) H := fun b o e => by
  unfold Cut at e
  split at e
  · cases e
  · exact e
theorem cut_at {b : Addr} {o : HO} (e : H b = some o) (h1 : b ≠ d) (h2 : b ≠ l) : Cut H d l b = some o := by
  unfold Cut
  rw [if_neg (by rintro (z | z) <;> contradiction)]
  exact e
theorem cut_but (B : But H H' d l) : Same (Cut H d l) (Cut H' d l) := fun b o e => by
  unfold Cut at e
  split at e
  · cases e
  · rename_i n
    exact cut_at (B b o e (fun z => n (.inl z)) fun z => n (.inr z)) (fun z => n (.inl z)) fun z => n (.inr z)
theorem cut_same (s : Same H H') : Same (Cut H d l) (Cut H' d l) := cut_but (But.of s)
theorem cut_sqT {a : Addr} {xs : List V} (D : DrawAt H d l c) (h : SqT K H a xs) : SqT K (Cut H d l) a xs := by
  obtain ⟨_, _, _, _, _, ls, cs, ed, el, _⟩ := D
  rcases h with (h | ⟨o, h⟩) | h
  · exact .inl (.inl (cut_at h (ne_of h ed (by intro z; cases z)) (ne_of h el (by intro z; cases z))))
  · exact .inl (.inr ⟨o, cut_at h (ne_of h ed (by intro z; cases z)) (ne_of h el (by intro z; cases z))⟩)
  · exact .inr h
theorem cut_new {p : Addr} {o : HO} (D : DrawAt H d l c) (np : H p = none) : Cut (upd H p o) d l p = some o := by
  obtain ⟨h1, h2, _⟩ := new_dl D np
  exact cut_at upd_same h1 h2
theorem TermAt.cut {n : Int} {nm : NmL} {g : Str} {m h : Nat} {v : V} (t : TermAt K H n nm g m h v) (D : DrawAt H d l c) : TermAt K (Cut H d l) n nm g m h v := by
  obtain ⟨dd, k, h1, h2, h3, h4⟩ := t
  exact ⟨dd, k, h2.dp (fun _ _ q => cut_sqT D q) v h1, h2, h3, h4⟩
end
/-! ### > of two tuples of ints -/
theorem lex_gt : ∀ (ns ms : List Int) (i : Nat), Ob.lexAt (fun j => decide (ns.getD (j - i) 0 = ms.getD (j - i) 0)) (fun j => decide (ms.getD (j - i) 0 < ns.getD (j - i) 0)) (decide (ns.length > ms.length)) i (min ns.length ms.length) = gtL ns ms
  | [], [], i => rfl
  | [], _ :: _, i => by simp [Ob.lexAt, gtL]
  | _ :: _, [], i => by simp [Ob.lexAt, gtL]
  | x :: xs, y :: ys, i => by
    rw [List.length_cons, List.length_cons, Nat.succ_min_succ, Ob.lexAt_succ]
    simp only [Nat.sub_self, List.getD_cons_zero, gtL, decide_eq_true_eq]
    by_cases e : x = y
    · rw [if_pos e, if_pos e, ← lex_gt xs ys (i + 1)]
      have cong : ∀ (k j : Nat) (z z' : Bool) (e1 e2 r1 r2 : Nat → Bool), z = z' → (∀ q, j ≤ q → e1 q = e2 q ∧ r1 q = r2 q) → Ob.lexAt e1 r1 z j k = Ob.lexAt e2 r2 z' j k := by
        intro k
        induction k with
        | zero => intro j z z' e1 e2 r1 r2 hz _; rw [hz]; rfl
        | succ k ih =>
          intro j z z' e1 e2 r1 r2 hz h
          rw [Ob.lexAt_succ, Ob.lexAt_succ, (h j (Nat.le_refl _)).1, (h j (Nat.le_refl _)).2, ih (j + 1) z z' e1 e2 r1 r2 hz fun q hq => h q (by omega)]
      refine cong _ _ _ _ _ _ _ _ ?_ fun q hq => ?_
      · simp
      · have e1 : q - i = (q - (i + 1)) + 1 := by omega
        rw [e1, List.getD_cons_succ, List.getD_cons_succ]
        exact ⟨rfl, rfl⟩
    · rw [if_neg e, if_neg e]
def rGtT (K : PySem.W.Frag) : R2 := fun x y H Q => ∃ (a b : Addr) (ns ms : List Int), x = .ref a ∧ y = .ref b ∧ SqT K H a (ns.map V.int) ∧ SqT K H b (ms.map V.int) ∧ Q (.bl (gtL ns ms)) H
theorem op_gtT {X : Cx} (hu : X.A.units < cLine) : OpR X (compareOp .Gt) (rGtT X.K) := by
  intro pins s σ H x y v u Q I rx ry h
  obtain ⟨a, b, ns, ms, rfl, rfl, ha, hb, q⟩ := h
  cases rx
  cases ry
  obtain ⟨its, r1, p1, _⟩ := I.tuple ha
  obtain ⟨its2, r2, p2, _⟩ := I.tuple hb
  have i1 : IntsAre its ns := Vals.ints r1
  have i2 : IntsAre its2 ms := Vals.ints r2
  have l1 : its.toArray.size = ns.length := by rw [List.size_toArray]; exact i1.length
  have l2 : its2.toArray.size = ms.length := by rw [List.size_toArray]; exact i2.length
  have get1 : ∀ j (h1 : j < its.toArray.size), ∃ t, its.toArray[j] = .int (ns.getD j 0) t := fun j h1 => PyProof.Rows.IntsAre.int_at i1 _ _ (by simp at h1; simp [h1])
  have get2 : ∀ j (h1 : j < its2.toArray.size), ∃ t, its2.toArray[j] = .int (ms.getD j 0) t := fun j h1 => PyProof.Rows.IntsAre.int_at i2 _ _ (by simp at h1; simp [h1])
  have R := Ob.RcOp.tuples_gt (A := X.A) (s := s) (e := fun j => decide (ns.getD j 0 = ms.getD j 0)) (r := fun j => decide (ms.getD j 0 < ns.getD j 0)) p1 p2 hu (fun j h1 h2 => by
    obtain ⟨t, et⟩ := get1 j h1
    obtain ⟨t', et'⟩ := get2 j h2
    rw [et, et', show decide (ns.getD j 0 = ms.getD j 0) = (ns.getD j 0 == ms.getD j 0) by rw [Bool.eq_iff_iff]; simp]
    exact SeqAt.EqAt.int_int _ _ _ _) (fun j h1 h2 _ => by
    obtain ⟨t, et⟩ := get1 j h1
    obtain ⟨t', et'⟩ := get2 j h2
    rw [et, et']
    exact Ob.RcOp.gt_int _ _ _ _)
  rw [l1, l2] at R
  have lx := lex_gt ns ms 0
  simp only [Nat.sub_zero] at lx
  rw [lx] at R
  exact R X.prog X.w X.xe (EP X pins σ Q) ⟨.bl _, H, I, rfl, q⟩
/-! ### repr of a tuple of ints -/
section
variable {X : Cx} {H : Hp}
theorem ReadsV.sqT {a : Addr} {vs : List V} {ds : List PyData} (e : SqT X.K H a vs) (r : ReadsVs X H vs ds) : ReadsV X H (.ref a) (.tuple ds) := fun pins σ s u I ru => by
  obtain rfl := (show u = Value.ref a from ru)
  obtain ⟨its, rv, ⟨o, h1, h2, n, h3⟩, _⟩ := I.tuple e
  obtain ⟨as, r1, n1⟩ := r.all I rv
  exact ⟨as, .tuple h1 h2 h3 (by simpa using r1), n1⟩
theorem reads_ints : ∀ p : List Int, ReadsVs X H (p.map V.int) (p.map PyData.int)
  | [] => .nil
  | i :: p => .cons (ReadsV.int i) (reads_ints p)
end
/-! ### _law_piece -/
abbrev sLPiece : Stmt := Jd.top 63
theorem scLPiece : FnScope ["term_here", "at", "k"] ["term_here", "at"] (defScope sLPiece) := ⟨rfl, rfl, rfl, by decide +kernel, rfl, by decide +kernel, by decide +kernel⟩
section
variable {P : Program} {w : World} {K : PySem.W.Frag} {mg : Str → Option Value} {base : Heap}
def spLPiece (K : PySem.W.Frag) : Sp := fun vs H Q _ => ∃ (H0 : Hp) (v : V) (b : Addr) (d d' : PyData) (p : List Int), vs = [v, .ref b] ∧ Same H0 H ∧ SqT K H b (p.map V.int) ∧ Dp K H0 v d ∧ alongD d p = some d' ∧ ∀ v', Dp K H0 v' d' → Q v' H
theorem ok_lpiece {f : Addr} {fd : FuncData} (F : Fun K "_law_piece" "_law_piece" sLPiece f fd) : FnOk P w K mg base CX0 1 f fd ["term_here", "at"] (spLPiece K) := by
  refine F.ok scLPiece (fun vs H Q E h => ?_) (fun cdv A outer s H vs Q E hr h => ?_)
  · obtain ⟨H0, v, b, d, d', p, rfl, _⟩ := h
    rfl
  · obtain ⟨H0, v, b, d, d', p, rfl, s0, hb, hv, ha, k⟩ := h
    have nd := scLPiece.nd
    refine ⟨_, pss_cons (ps_for PassesOwn.never rfl (pi_tup (pv 1)) (pg_name (i := 2) nd rfl (Or.inl rfl)) (pss_one (ps_set (i := 0) nd rfl (Or.inl rfl) (pe_ix ix_tup (pv 0) (pv 2) (fun _ _ => rfl))))) (pss_one (ps_ret (pv 0))), ?_⟩
    refine ⟨_, rfl, b, rfl, ⟨_, hb⟩, for_tup (K := K) (a := b) (xs := p.map V.int) (fun i σ H' => H' = H ∧ ∃ v d g2, σ = [some v, some (.ref b), g2] ∧ Dp K H0 v d ∧ alongD d (p.drop i) = some d') ⟨rfl, v, d, none, rfl, hv, ha⟩ (fun i σ H' _ ⟨e, _⟩ => by rw [e]; exact hb) ?_ ?_⟩
    · rintro i x σ H' hx ⟨rfl, v1, d1, g2, rfl, h1, a1⟩
      rw [List.getElem?_map] at hx
      cases e : p[i]? with
      | none => rw [e] at hx; cases hx
      | some z =>
        rw [e] at hx
        obtain rfl := Option.some.inj hx
        have dr : p.drop i = z :: p.drop (i + 1) := by
          rw [List.drop_eq_getElem_cons (List.getElem?_eq_some_iff.mp e).1, (List.getElem?_eq_some_iff.mp e).2]
        rw [dr] at a1
        cases d1 with
        | tuple ds =>
          obtain ⟨j, d2, rfl, hj, a2⟩ := along_cons a1
          obtain ⟨⟩ | ⟨⟩ | ⟨⟩ | ⟨⟩ | ⟨⟩ | @⟨c, ys, _, hc, hs⟩ := h1
          have lj : j < ys.length := by
            rw [dps_len hs]
            exact (List.getElem?_eq_some_iff.mp hj).1
          obtain ⟨d3, e3, h3⟩ := dps_get hs (List.getElem?_eq_getElem lj)
          rw [hj] at e3
          cases e3
          exact ⟨_, rfl, _, rfl, c, ys, (j : Int), _, rfl, rfl, sqT_same s0 hc, atI_nat (List.getElem?_eq_getElem lj), rfl, _, d2, _, rfl, h3, a2⟩
        | _ => cases a1
    · rintro σ H' ⟨rfl, v1, d1, g2, rfl, h1, a1⟩
      rw [List.length_map, List.drop_length, along_nil] at a1
      cases a1
      exact ⟨v1, rfl, k v1 h1⟩
/-! ### _law_with -/
abbrev sLWith : Stmt := Jd.top 64
theorem scLWith : FnScope ["term_here", "at", "piece"] ["term_here", "at", "piece"] (defScope sLWith) := ⟨rfl, rfl, rfl, by decide +kernel, rfl, by decide +kernel, by decide +kernel⟩
/-- data of drawn or spoilt terms -/
inductive OD : PyData → Prop
  | tup {ds : List PyData} (few : ds.length ≤ 1000) (all : ∀ d ∈ ds, OD d) : OD (.tuple ds)
  | leaf {d : PyData} (h : ∀ ds, d ≠ .tuple ds) (s : ∀ x, d = .str x → x.length ≤ sizeLine) : OD d
theorem OD.fine {d : PyData} (h : OD d) : fineD d := by
  cases h with
  | leaf h s => exact ⟨s, fun as ds e => absurd e (h ds)⟩
  | tup few all => exact ⟨fun x e => (by cases e), fun as ds e m => by cases e; cases all _ m with
      | tup few2 _ => exact few2
      | leaf h _ => exact absurd rfl (h as)⟩
theorem OD.deep {d : PyData} (h : OD d) : Deep fineD d := by
  induction h with
  | leaf h s => exact .leaf (OD.leaf h s).fine h
  | tup few all ih => exact .tup (OD.tup few all).fine ih
theorem TD.od {d : PyData} (h : TD d) : OD d := by
  induction h with
  | int i => exact .leaf (fun ds e => by cases e) fun x e => by cases e
  | str h => exact .leaf (fun ds e => by cases e) fun x e => by cases e; exact h.1
  | tup few all ih => exact .tup few ih
theorem OD.part {d q : PyData} (h : OD d) : ∀ {p : List Int}, alongD d p = some q → OD q := by
  intro p
  induction p generalizing d with
  | nil => intro e; rw [along_nil] at e; cases e; exact h
  | cons i p ih =>
    intro e
    cases d with
    | tuple ds =>
      obtain ⟨j, d2, rfl, hj, a2⟩ := along_cons e
      cases h with
      | tup _ all => exact ih (all d2 (List.mem_of_getElem? hj)) a2
      | leaf h _ => exact absurd rfl (h ds)
    | _ => cases e
theorem TD.part {d q : PyData} (h : TD d) : ∀ {p : List Int}, alongD d p = some q → TD q := by
  intro p
  induction p generalizing d with
  | nil => intro e; rw [along_nil] at e; cases e; exact h
  | cons i p ih =>
    intro e
    cases d with
    | tuple ds =>
      obtain ⟨j, d2, rfl, hj, a2⟩ := along_cons e
      cases h with
      | tup _ all => exact ih (all d2 (List.mem_of_getElem? hj)) a2
    | _ => cases e
theorem OD.with {d q b : PyData} (h : OD d) (hb : OD b) : ∀ {p : List Int}, alongD d p = some q → OD (withD p d b) := by
  intro p
  induction p generalizing d with
  | nil => intro e; exact hb
  | cons i p ih =>
    intro e
    cases d with
    | tuple ds =>
      obtain ⟨j, d2, rfl, hj, a2⟩ := along_cons e
      have e2 : ds.getD (j : Int).toNat .none = d2 := by
        rw [Int.toNat_natCast, List.getD_eq_getElem?_getD, hj]
        rfl
      simp only [withD]
      rw [e2]
      cases h with
      | tup few all =>
        refine .tup (by rw [List.length_set]; exact few) fun y hy => ?_
        rcases List.mem_or_eq_of_mem_set hy with z | z
        · exact all y z
        · rw [z]
          exact ih (all d2 (List.mem_of_getElem? hj)) a2
      | leaf h _ => exact absurd rfl (h ds)
    | _ => cases e
theorem cut_lo {xs : List V} {j : Nat} (h : j < xs.length) : cutV xs none (some (j : Int)) = xs.take j ∧ ¬ (HT.sIx xs.length 0 none = 0 ∧ HT.sIx xs.length xs.length (some (j : Int)) = xs.length) := by
  refine ⟨cut_take, fun z => ?_⟩
  have := z.2
  rw [HT.sIx_nat] at this
  omega
theorem cut_hi {xs : List V} {j : Nat} (h : j < xs.length) : cutV xs (some ((j : Int) + 1)) none = xs.drop (j + 1) ∧ ¬ (HT.sIx xs.length 0 (some ((j : Int) + 1)) = 0 ∧ HT.sIx xs.length xs.length none = xs.length) := by
  have e : HT.sIx xs.length 0 (some ((j : Int) + 1)) = j + 1 := by
    rw [show ((j : Int) + 1) = ((j + 1 : Nat) : Int) by omega, HT.sIx_nat]
    omega
  refine ⟨?_, fun z => ?_⟩
  · unfold cutV
    rw [e, HT.sIx_none, List.take_of_length_le (by rw [List.length_drop]; omega)]
  · rw [e] at z
    omega
theorem shaped_ints (p : List Int) : SeqAt.shaped (.tuple (p.map PyData.int)) = true := by
  have h1 : ∀ p : List Int, PyData.depthAll (p.map PyData.int) = 0 := fun p => by
    induction p with
    | nil => simp [PyData.depthAll]
    | cons i p ih => rw [List.map_cons, PyData.depthAll, ih]; simp [PyData.depth]
  have h2 : ∀ p : List Int, PyData.canLayAll0 (p.map PyData.int) = true := fun p => by
    induction p with
    | nil => simp [PyData.canLayAll0]
    | cons i p ih => rw [List.map_cons, PyData.canLayAll0, ih]; simp [PyData.canLay0]
  unfold SeqAt.shaped
  simp [PyData.canLay0, PyData.depth, h1, h2]
theorem eqv_ints : ∀ p q : List Int, PyData.eqvAll (p.map PyData.int) (q.map PyData.int) = decide (p = q)
  | [], [] => by simp [PyData.eqvAll]
  | [], _ :: _ => by simp [PyData.eqvAll]
  | _ :: _, [] => by simp [PyData.eqvAll]
  | i :: p, j :: q => by
    simp only [List.map_cons, PyData.eqvAll, PyData.eqv]
    rw [eqv_ints p q]
    by_cases e : i = j
    · simp [e]
    · simp [e]
theorem eqv_tints (p q : List Int) : PyData.eqv (.tuple (p.map PyData.int)) (.tuple (q.map PyData.int)) = decide (p = q) := by
  rw [← eqv_ints p q]
  simp [PyData.eqv]
def spLWith (K : PySem.W.Frag) (m : Nat) : Sp := fun vs H Q _ => ∃ (d l c : Addr) (v vx : V) (b : Addr) (dd x q : PyData) (p : List Int), vs = [v, .ref b, vx] ∧ DrawAt H d l c ∧ SqT K H b (p.map V.int) ∧ p.length ≤ m ∧ p.length ≤ 900 ∧ Dp K (Cut H d l) v dd ∧ OD dd ∧ alongD dd p = some q ∧ Dp K (Cut H d l) vx x ∧
  ∀ v' H', Same H H' → Dp K (Cut H' d l) v' (withD p dd x) → Q v' H'
def spLWithP (K : PySem.W.Frag) : Nat → Sp
  | 0 => spNever
  | m + 1 => spLWith K m
theorem dps_ints' {H : Hp} : ∀ p : List Int, DpAll K H (p.map V.int) (p.map PyData.int)
  | [] => .nil
  | i :: p => .cons (.int i) (dps_ints' p)
theorem dps_set {H : Hp} {vs : List V} {ds : List PyData} {v : V} {x : PyData} {j : Nat} (h : DpAll K H vs ds) (hv : Dp K H v x) : DpAll K H (vs.set j v) (ds.set j x) := by
  induction ds generalizing vs j with
  | nil => cases h; exact .nil
  | cons d ds ih =>
    cases h with
    | cons a b =>
      cases j with
      | zero => exact .cons hv b
      | succ j => exact .cons a (ih b)
theorem body_lwith {f : Addr} {fd : FuncData} {m : Nat} (F : Fun K "_law_with" "_law_with" sLWith f fd) (mF : mg "_law_with" = some (.ref f)) (bF : Binds K fd ["term_here", "at", "piece"] []) (GR : FnOk P w K mg base CX0 (m + 1) f fd ["term_here", "at", "piece"] (spLWithP K m)) :
    FnOk P w K mg base CX0 (m + 2) f fd ["term_here", "at", "piece"] (spLWith K m) := by
  refine F.ok scLWith (fun vs H Q E h => ?_) (fun cdv A outer s H vs Q E hr h => ?_)
  · obtain ⟨d, l, c, v, vx, b, dd, x, q, p, rfl, _⟩ := h
    rfl
  · obtain ⟨d, l, c, v, vx, b, dd, x, q, p, rfl, D, hb, hm, h9, hv, od, ha, hx, k⟩ := h
    have nd := scLWith.nd
    refine ⟨_, pss_cons (ps_if (pt_cmpR (op_eqD hr.units) (pv 1) (pe_tup pa_nil) (nomark _)) (pss_one (ps_ret (pv 2))) pss_nil)
      (pss_one (ps_ret (pe_op op_catA (pe_op op_catA (pe_slice sl_tupA (pv 0) po_none (po_some (pe_ix ix_tup (pv 1) pe_int (fun _ _ => rfl))))
          (pe_tup (pa_cons (pe_call GR hr rfl mF F.kp bF .nil pass0 (pa_cons (pe_ix ix_tup (pv 0) (pe_ix ix_tup (pv 1) pe_int (fun _ _ => rfl)) (fun _ _ => rfl)) (pa_cons (pe_slice sl_tupA (pv 1) (po_some pe_int) po_none) (pa_cons (pv 2) pa_nil)))) pa_nil)))
        (pe_slice sl_tupA (pv 0) (po_some (pe_op op_add (pe_ix ix_tup (pv 1) pe_int (fun _ _ => rfl)) pe_int)) po_none)))), ?_⟩
    refine ⟨_, rfl, Nat.zero_le _, fun u nu => ?_⟩
    have s1 := new_same (o := .tup []) nu
    have e1 : (upd H u (.tup [])) u = some (.tup []) := upd_same
    generalize upd H u (.tup []) = H1 at s1 e1 ⊢
    refine ⟨.tuple (p.map PyData.int), .tuple [], .tup (sqT_same s1 hb) (dps_ints' p), .tup (SqT.of e1) .nil, shaped_ints p, by decide +kernel, _, rfl, ?_⟩
    rw [show PyData.eqv (.tuple (p.map PyData.int)) (.tuple []) = decide (p = []) from eqv_tints p []]
    cases p with
    | nil =>
      rw [decide_eq_true rfl]
      refine iteT ⟨_, rfl, ?_⟩
      exact k vx H1 s1 (dp_same (cut_same s1) hx)
    | cons i p =>
    rw [decide_eq_false (by simp)]
    refine iteF ?_
    cases dd with
    | tuple ds =>
      obtain ⟨j, d2, rfl, hj, a2⟩ := along_cons ha
      obtain ⟨⟩ | ⟨⟩ | ⟨⟩ | ⟨⟩ | ⟨⟩ | @⟨t, ys, _, ht, hs⟩ := hv
      have lj : j < ys.length := by
        rw [dps_len hs]
        exact (List.getElem?_eq_some_iff.mp hj).1
      obtain ⟨d3, e3, h3⟩ := dps_get hs (List.getElem?_eq_getElem lj)
      rw [hj] at e3
      cases e3
      have few : ds.length ≤ 1000 := by
        cases od with
        | tup few _ => exact few
        | leaf h _ => exact absurd rfl (h ds)
      have ly := dps_len hs
      have hb1 : SqT K H1 b (((j : Int) :: p).map V.int) := sqT_same s1 hb
      have tt : ∀ {H2 : Hp}, Same H1 H2 → SqT K H2 t ys := fun s => sqT_same (s1.trans s) (sqT_same cut_sub ht)
      obtain ⟨c1, c2⟩ := cut_lo (xs := ys) lj
      obtain ⟨g1, g2⟩ := cut_hi (xs := ys) lj
      -- term_here[:at[0]]
      refine ⟨_, rfl, _, rfl, b, _, 0, _, rfl, rfl, hb1, atI_nat (j := 0) rfl, (j : Int), rfl, t, ys, rfl, tt (Same.refl _), fun z => absurd z c2, fun _ A1 nA1 => ?_⟩
      rw [c1]
      have s2 := new_same (o := .tup (ys.take j)) nA1
      have e2 : (upd H1 A1 (.tup (ys.take j))) A1 = some (.tup (ys.take j)) := upd_same
      generalize upd H1 A1 (.tup (ys.take j)) = H2 at s2 e2 ⊢
      -- _law_with(term_here[at[0]], at[1:], piece)
      refine ⟨_, rfl, _, rfl, b, _, 0, _, rfl, rfl, sqT_same s2 hb1, atI_nat (j := 0) rfl, t, ys, (j : Int), _, rfl, rfl, tt s2, atI_nat (List.getElem?_eq_getElem lj), ?_⟩
      refine ⟨_, rfl, 1, rfl, b, _, rfl, sqT_same s2 hb1, fun z => ?_, fun _ B1 nB1 => ?_⟩
      · rw [List.map_cons, List.length_cons, sIx_one] at z
        exact absurd z.1 (by decide)
      rw [List.map_cons, cut_one]
      have s3 := new_same (o := .tup (p.map V.int)) nB1
      have e3 : (upd H2 B1 (.tup (p.map V.int))) B1 = some (.tup (p.map V.int)) := upd_same
      generalize upd H2 B1 (.tup (p.map V.int)) = H3 at s3 e3 ⊢
      have s13 := (s1.trans s2).trans s3
      refine ⟨_, rfl, ?_⟩
      cases m with
      | zero => simp at hm
      | succ m =>
      have odd : OD d2 := by
        cases od with
        | tup _ all => exact all d2 (List.mem_of_getElem? hj)
        | leaf h _ => exact absurd rfl (h ds)
      refine ⟨d, l, c, _, vx, B1, d2, x, q, p, rfl, D.same s13, SqT.of e3, by simp at hm; omega, by simp at h9; omega, dp_same (cut_same s13) h3, odd, a2, dp_same (cut_same s13) hx, fun v' H4 s4 dv' => ?_⟩
      have s14 := s13.trans s4
      refine ⟨by show 1 ≤ sizeLine; decide, fun C1 nC1 => ?_⟩
      have s5 := new_same (o := .tup [v']) nC1
      have e5 : (upd H4 C1 (.tup [v'])) C1 = some (.tup [v']) := upd_same
      generalize upd H4 C1 (.tup [v']) = H5 at s5 e5 ⊢
      have D5 := D.same (s14.trans s5)
      have s25 := (s3.trans s4).trans s5
      -- the first two put together
      have cat1 : ∀ {Q2 : VK}, (∀ a3 H6, Same H5 H6 → H6 a3 = some (.tup (ys.take j ++ [v'])) → Q2 (.ref a3) H6) → rCatA K (.ref A1) (.ref C1) H5 Q2 := fun {Q2} k2 => by
        refine ⟨A1, C1, ys.take j, [v'], rfl, rfl, SqT.of (s25 _ _ e2), SqT.of e5, Nat.le_of_lt (small1000 (by rw [List.length_take, List.length_singleton]; omega)), fun e => ?_, fun _ e => by simp at e, fun _ _ r nr => ?_⟩
        · refine k2 C1 H5 (Same.refl _) ?_
          rw [e, List.nil_append]
          exact e5
        · exact k2 r _ (new_same nr) upd_same
      refine cat1 fun a3 H6 s6 e6 => ?_
      have s06 := (s14.trans s5).trans s6
      have hb6 : SqT K H6 b (((j : Int) :: p).map V.int) := sqT_same s06 hb
      -- term_here[at[0] + 1:]
      refine ⟨_, rfl, _, rfl, b, _, 0, _, rfl, rfl, hb6, atI_nat (j := 0) rfl, _, _, rfl, rfl, (j : Int) + 1, rfl, t, ys, rfl, sqT_same s06 (sqT_same cut_sub ht), fun z => absurd z g2, fun _ E1 nE1 => ?_⟩
      rw [g1]
      have s7 := new_same (o := .tup (ys.drop (j + 1))) nE1
      have e7 : (upd H6 E1 (.tup (ys.drop (j + 1)))) E1 = some (.tup (ys.drop (j + 1))) := upd_same
      generalize upd H6 E1 (.tup (ys.drop (j + 1))) = H7 at s7 e7 ⊢
      have fin : ∀ a9 H9, Same H7 H9 → H9 a9 = some (.tup (ys.take j ++ [v'] ++ ys.drop (j + 1))) → Q (.ref a9) H9 := fun a9 H9 s9 e9 => by
        have s49 := ((s5.trans s6).trans s7).trans s9
        have s09 := (s06.trans s7).trans s9
        have D9 := D.same s09
        refine k (.ref a9) H9 s09 ?_
        have es : ys.take j ++ [v'] ++ ys.drop (j + 1) = ys.set j v' := by
          rw [List.set_eq_take_append_cons_drop, if_pos lj, List.append_assoc]
          rfl
        have e2 : ds.getD (j : Int).toNat .none = d2 := by
          rw [Int.toNat_natCast, List.getD_eq_getElem?_getD, hj]
          rfl
        simp only [withD]
        rw [e2, Int.toNat_natCast]
        rw [es] at e9
        exact .tup (cut_sqT D9 (SqT.of e9)) (dps_set (dps_same (cut_same s09) hs) (dp_same (cut_same s49) dv'))
      refine ⟨a3, E1, _, _, rfl, rfl, SqT.of (s7 _ _ e6), SqT.of e7, Nat.le_of_lt (small1000 (by rw [List.length_append, List.length_take, List.length_drop, List.length_singleton]; omega)), fun e => by simp at e, fun _ e => ?_, fun _ _ r nr => ?_⟩
      · refine fin a3 H7 (Same.refl _) ?_
        rw [e, List.append_nil]
        exact s7 _ _ e6
      · exact fin r _ (new_same nr) upd_same
    | _ => cases ha
theorem with_all {f : Addr} {fd : FuncData} (F : Fun K "_law_with" "_law_with" sLWith f fd) (mF : mg "_law_with" = some (.ref f)) (bF : Binds K fd ["term_here", "at", "piece"] []) : ∀ m : Nat, FnOk P w K mg base CX0 (m + 2) f fd ["term_here", "at", "piece"] (spLWith K m)
  | 0 => body_lwith (m := 0) F mF bF (show FnOk P w K mg base CX0 (0 + 1) f fd ["term_here", "at", "piece"] (spLWithP K 0) from fnNever)
  | m + 1 => body_lwith (m := m + 1) F mF bF (show FnOk P w K mg base CX0 (m + 1 + 1) f fd ["term_here", "at", "piece"] (spLWithP K (m + 1)) from with_all F mF bF m)
end
end Jd
/-! for k, x in enumerate(t), t a tuple. -/
namespace EtT
open PySem PySem.Spec PyProof.Rows L2
set_option maxHeartbeats 4000000 in
theorem meets_enum1 {v : Value} {o : Obj} {H : Heap → Prop} (B : Begins v o H) :
    Meets (Builtin.«enumerate.__new__» ⟨[.type "enumerate", v], []⟩) (fun _ R s => H s.heap ∧
      R (.ok (.ret (.ref (s.heap.push o).objs.size))) { s with heap := (s.heap.push o).push { cls := .type "enumerate", data := .fields #[.none, .bool false, .ref s.heap.objs.size, rawInt 0, .none, .none] } }) :=
  .of_wp fun prog w A R s h => by
    obtain ⟨hp, g, d, tk, os⟩ := s; obtain ⟨h1, h⟩ := h
    have hsub := sub_enumerate
    have q1 : ∀ {A' : Around} {E : Value → Shared → Prop} {Q : Value → Shared → Prop}, Q (.ref hp.objs.size) ⟨hp.push o, g, d, tk, os⟩ → wpAny (model prog w) A' (pyIter v) Q E ⟨hp, g, d, tk, os⟩ :=
      fun q => B.iter prog w _ _ ⟨hp, g, d, tk, os⟩ _ h1 q
    wp_walk using q1
    refine wpAny_stack_any fun st => wpAny_pure ?_
    split
    · rename_i c _ _ _ _ _
      cases (c == Value.type "enumerate")
      · wp_walk using q1
        exact ⟨_, rfl, h⟩
      · wp_walk using q1
        exact ⟨_, rfl, h⟩
    · wp_walk using q1
      exact ⟨_, rfl, h⟩
section
variable {prog : Program} {w : World} {A : Around} {E : Value → Shared → Prop} {s : Shared}
theorem call_enum1 {a : Addr} {o : Obj} {H : Heap → Prop} {Q : Value → Shared → Prop} (B : Begins (.ref a) o H) (h1 : H s.heap)
    (h : ∀ h', IsEnum h' (s.heap.objs.size + 1) s.heap.objs.size 0 .none → h'.get? s.heap.objs.size = some o → h'.objs.size = s.heap.objs.size + 2 →
      (∀ b o, s.heap.get? b = some o → h'.get? b = some o) → Q (.ref (s.heap.objs.size + 1)) { s with heap := h' }) :
    wpAny (model prog w) A (call (.type "enumerate") [.ref a]) Q E s := by
  refine callType_new F.called_enumerate (by decide) (F.typeCall_enumerate_1 _) (F.newCall_enumerate_1 _) (fun obj => F.args_object_init_2 obj _) F.entry_enumerate_new
    (meets_enum1 B) ⟨h1, ?_⟩
  have hz : (s.heap.push o).objs.size = s.heap.objs.size + 1 := Heap.size_push ..
  show _ ∧ _
  rw [hz]
  have he : IsEnum ((s.heap.push o).push { cls := .type "enumerate", data := .fields #[.none, .bool false, .ref s.heap.objs.size, rawInt 0, .none, .none] }) (s.heap.objs.size + 1) s.heap.objs.size 0 .none := by
    have := Heap.get?_push_size (s.heap.push o) (o := { cls := .type "enumerate", data := .fields #[.none, .bool false, .ref s.heap.objs.size, rawInt 0, .none, .none] }) rfl
    rw [hz] at this; exact this
  refine ⟨⟨_, he, rfl⟩, h _ he (Heap.get?_push_of_some _ (Heap.get?_push_size _ B.free)) (by rw [Heap.size_push, hz]) fun b o x => Heap.get?_push_of_some _ (Heap.get?_push_of_some _ x)⟩
end
/-- the tuple at a, each item in a new pair -/
def Itet (K : PySem.W.Frag) (a : Addr) : It :=
  ⟨fun i H => ∃ (xs : List V) (x : V), SqT K H a xs ∧ xs[i]? = some x, fun i H v H' => ∃ T x, v = .ref T ∧ H T = none ∧ H' = upd H T (.tup [.int (i : Nat), x]) ∧ ∀ xs, SqT K H a xs → xs[i]? = some x, fun i H => ∃ xs : List V, SqT K H a xs ∧ xs.length ≤ i⟩
theorem turn_enumT {P : Program} {w : World} {K : PySem.W.Frag} {elts : List Expr} {kk : Nat} {tpos : Pos} (a e it : Addr) :
    Turn P w K (.Tuple elts kk tpos) (Itet K a) [e, it] e (fun i h => (∃ old, IsEnum h e it ((i : Nat) : Int) old) ∧ h.IsTupleIter it a i ∧ e ≠ it ∧ a ≠ it ∧ e ≠ a) where
  mem := by simp
  obj := fun i h st b hb => by
    obtain ⟨⟨old, he⟩, ⟨o, ho, hc, hd⟩, _⟩ := st
    have e' : b = e ∨ b = it := by simpa using hb
    rcases e' with z | z
    · rw [z]; exact ⟨_, he, fun v q => nomatch q⟩
    · rw [z]; exact ⟨o, ho, fun v q => by rw [hd] at q; cases q⟩
  keep := fun i h h' st k => let ⟨⟨old, he⟩, hi, hne⟩ := st; ⟨⟨old, k e (by simp) _ he⟩, hi.at fun o q => k it (by simp) o q, hne⟩
  item := by
    intro X hP hw hK hc i pins s σ H E I hf st hg
    subst hP hw hK
    obtain ⟨⟨old, he⟩, hit, hne, hai, hea⟩ := st
    obtain ⟨xs, x, hq, hx⟩ := hg
    obtain ⟨its, rv, p, hz⟩ := I.tuple hq
    have p' : s.heap.IsTuple a its.toArray := let ⟨o, ho, hc, n, hd⟩ := p; ⟨o, ho, hc, n, hd⟩
    obtain ⟨u, hu, ru⟩ := rv.get hx
    have hel : e < s.heap.objs.size := Heap.lt_size he
    have hil : it < s.heap.objs.size := by obtain ⟨_, q, _⟩ := hit; exact Heap.lt_size q
    have hi : i < its.toArray.size := by
      have := (List.getElem?_eq_some_iff.mp hu).1
      simpa using this
    refine wpAny_pyNext_enum_itemD (Draws.tuple (A := X.A.in1) (show X.A.in1.handled = none from I.ok.hd hc) it a hai its.toArray) he ⟨hit, p'⟩ hi hne (by simp; exact ⟨hne, hea⟩) fun u' h' tk hu' ho hst hT hsz hk => ?_
    obtain rfl : u' = u := by
      have : its.toArray[i]? = some u := by simpa using hu
      rw [hu'] at this
      exact Option.some.inj this
    refine ⟨_, rfl, wpAny_letOwnedTupleGo_enum (s := { s with heap := h', toks := tk + 1 }) ho fun h'' he' sb => ?_⟩
    have hT2 : h''.get? s.heap.objs.size = some { cls := .type "tuple", data := .seq #[.int i tk, u'] } := (sb.2 _ (Nat.ne_of_gt hel)).trans hT
    have new : ObjOk X.prog X.w (upd H s.heap.objs.size (.tup [.int (i : Nat), x])) h'' s.heap.objs.size (.tup [.int (i : Nat), x]) :=
      ⟨by show 2 ≤ sizeLine; decide, [.int i tk, u'], .cons ⟨_, rfl⟩ (.cons ru .nil), ⟨_, hT2, rfl, _, rfl⟩⟩
    have I1 : Inv X pins σ (upd H s.heap.objs.size (.tup [.int (i : Nat), x])) { s with heap := h'', toks := tk + 1 } :=
      I.turnedNew (ch := [e, it]) (fun b ob hb q => (sb.2 b (fun z => hb (by simp [z]))).trans (hk b ob (fun z => hb (by simp [z])) (fun z => hb (by simp [z])) q)) hf (Nat.le_refl _) new
    refine ⟨.ref s.heap.objs.size, _, I1, rfl, ⟨_, x, rfl, I.hok.fresh (Nat.le_refl _), rfl, fun ys hy => by rw [I.tuple_inj hy hq]; exact hx⟩, ⟨⟨u', ?_⟩, hst.1.at fun o q => (sb.2 it (Ne.symm hne)).trans q, hne, hai, hea⟩, fun b hb => ?_⟩
    · have e1 : ((i + 1 : Nat) : Int) = (i : Int) + 1 := by omega
      rw [e1]; exact he'
    · have hb' : b < s.heap.objs.size := by
        have e' : b = e ∨ b = it := by simpa using hb
        rcases e' with z | z
        · rw [z]; exact hel
        · rw [z]; exact hil
      rw [upd_ne (Nat.ne_of_lt hb')]
      exact (hf b hb).1
  done := by
    intro X hP hw hK hc i pins s σ H E I hf st hg
    subst hP hw hK
    obtain ⟨⟨old, he⟩, hit, hne, hai, hea⟩ := st
    obtain ⟨xs, hq, hx⟩ := hg
    obtain ⟨its, rv, p, hz⟩ := I.tuple hq
    have p' : s.heap.IsTuple a its.toArray := let ⟨o, ho, hc, n, hd⟩ := p; ⟨o, ho, hc, n, hd⟩
    obtain ⟨f0, f1, f2, f3, f4, f5⟩ := hf it (by simp)
    have hl := rv.length
    have hn : its.toArray[i]? = none := by simp; omega
    have D0 : Draws X.prog X.w X.A.in1 it [it, a] 0 (fun _ _ => True) (fun j h => h.IsTupleIter it a (i + j) ∧ h.IsTuple a its.toArray) :=
      { live := fun _ _ st => let ⟨o, ho, _⟩ := st.1; ⟨o, ho⟩
        frame := fun _ _ _ st hk => ⟨st.1.at fun o e => hk it (by simp) o e, st.2.at fun o e => hk a (by simp) o e⟩
        item := fun j s Q E hj => absurd hj (Nat.not_lt_zero _)
        done := fun s Q E st hE => wpAny_nextOf_tuple_end (show X.A.in1.handled = none from I.ok.hd hc) st.1 st.2 hn hE }
    exact wpAny_pyNext_enum_endD D0 he ⟨hit, p'⟩ fun h' eb => ⟨rfl, I.turned (t' := s.toks) (fun b o hb q => eb b o hb q) f0 f1 f3 f4 f5⟩
  self := fun A i s Q E st h => let ⟨⟨_, he⟩, _⟩ := st; wpAny_pyIter_enum he h
def iEnumT (K : PySem.W.Frag) (ta : TA) : TI := fun σ H R => ta σ H fun vs H1 => ∃ a xs, vs = [.ref a] ∧ SqT K H1 a xs ∧ R (Itet K a) H1
theorem pi_enumT {X : Cx} {e : Expr} {ta : TA} {p pos tpos : Pos} {elts : List Expr} {kk : Nat} (hg : Gl X "enumerate") (hm : X.mg "enumerate" = none) (ha : PA X [e] ta) (hs : starEach [e] X.env = [(false, eval e X.env)] := by rfl) :
    PI X (.Tuple elts kk tpos) (.Call (.Name "enumerate" p) [e] [] pos) (iEnumT X.K ta) := by
  refine ⟨fun pins s σ H R I h => ?_⟩
  refine Call_ (ld_blt I hg hm boot_enumerate (PyProof.Rows.callWith_type1 (thn (ha.run pos pins s σ H _ I h) fun us s1 ⟨vs, H1, I1, r1, q1⟩ => ?_) hs rfl))
  obtain ⟨a, xs, ex, hq, q⟩ := q1
  subst ex
  cases r1 with
  | cons r rr =>
    cases rr
    cases r
    obtain ⟨its, rv, p0, hz⟩ := I1.tuple hq
    have p' : s1.heap.IsTuple a its.toArray := let ⟨o, ho, hc, n, hd⟩ := p0; ⟨o, ho, hc, n, hd⟩
    have hal : a < s1.heap.objs.size := by obtain ⟨o, ho, _⟩ := p0; exact Heap.lt_size ho
    refine call_enum1 (begins_tuple a its.toArray) p' fun h' he ho hsz hk => wpAny_pyIter_enum he ?_
    have I2 : Inv X pins σ H1 { s1 with heap := h' } := I1.kept (t' := s1.toks) hk
    refine ⟨s1.heap.objs.size + 1, [s1.heap.objs.size + 1, s1.heap.objs.size], _, _, H1, rfl, I2, turn_enumT a (s1.heap.objs.size + 1) s1.heap.objs.size, ⟨⟨.none, he⟩, ⟨_, ho, rfl, rfl⟩, Nat.succ_ne_self _, Nat.ne_of_lt hal, fun z => ?_⟩, fun b hb => ?_, q⟩
    · rw [← z] at hal
      exact Nat.lt_irrefl _ (Nat.lt_of_succ_lt hal)
    have e' : b = s1.heap.objs.size + 1 ∨ b = s1.heap.objs.size := by simpa using hb
    have hle : s1.heap.objs.size ≤ b := by
      rcases e' with z | z
      · rw [z]; exact Nat.le_add_right _ _
      · rw [z]; exact Nat.le_refl _
    exact I1.fpOk hle (I1.hok.fresh hle)
theorem walk_enumT {K : PySem.W.Frag} {a : Addr} {xs : List V} : Walk (Itet K a) xs.length (fun H => SqT K H a xs) (YPair (fun i => some (.int (i : Nat))) (fun i => xs[i]?)) := by
  refine ⟨fun i H hi h => ⟨xs, xs[i], h, List.getElem?_eq_getElem hi⟩, fun H h => ⟨xs, h, Nat.le_refl _⟩, fun i H v H' hi h ⟨T, x, ev, nT, eH, e1⟩ => ⟨T, _, x, ev, nT, eH, rfl, e1 _ h⟩⟩
end EtT
/-! _law_places of law_k03. -/
namespace Jd
open PySem PySem.Spec PyProof.Rows L2 RZ Dk
abbrev sLPlaces : Stmt := Jd.top 62
abbrev plN : List Str := ["term_here", "at", "found", "kind_here", "parts", "k", "part", "wanted", "place", "sort_here"]
theorem scLPlaces : FnScope plN ["term_here", "at"] (defScope sLPlaces) := ⟨rfl, rfl, rfl, by decide +kernel, rfl, by decide +kernel, by decide +kernel⟩
/-- the parts with their places and the sorts that the law tells, the first m of them -/
def PartsN (K : PySem.W.Frag) (H : Hp) (at_ : List Int) (l : NmL) (ds : List PyData) (ps : List (List Int)) (qs : List PyData) (m : Nat) (D : Addr) : Prop := ∃ ts : List V, H D = some (.lst ts) ∧ ts.length = m ∧ ∀ (i : Nat) (t : V), ts[i]? = some t →
  ∃ (a b : Addr) (v : V) (w : Option Str) (p : List Int) (q : PyData), t = .ref a ∧ ps[i]? = some p ∧ qs[i]? = some q ∧ H a = some (.tup [.ref b, v, optV w]) ∧ H b = some (.tup ((at_ ++ p).map V.int)) ∧ Dp K H v q ∧ (w = none ∨ ∃ wd, w = some wd ∧ (wantedD l ds)[i]? = some wd ∧ W3 wd)
def PlacesAt (H : Hp) (at_ : List Int) (l : NmL) (d : PyData) (k : Nat) (p : Addr) : Prop := ∃ ts : List V, H p = some (.lst ts) ∧ ts.length + 1 ≤ k ∧ ∀ t ∈ ts, ∃ (a b : Addr) (p' : List Int) (w : Option Str) (l' : NmL), t = .ref a ∧ H a = some (.tup [.ref b, optV w]) ∧ H b = some (.tup ((at_ ++ p').map V.int)) ∧ Pl l d p' w l' ∧ p' ≠ []
section
variable {P : Program} {w : World} {K : PySem.W.Frag} {mg : Str → Option Value} {base : Heap}
def spLPlaces (K : PySem.W.Frag) (h : Nat) : Sp := fun vs H Q _ => ∃ (v : V) (q : Addr) (n : Int) (l : NmL) (d : PyData) (g : Str) (k : Nat) (at_ : List Int), vs = [v, .ref q] ∧ Dp K H v d ∧ TD d ∧ Typ n l d g k h ∧ k ≤ 60 ∧ H q = some (.tup (at_.map V.int)) ∧ at_.length + 2 * h ≤ 100 ∧
  ∀ p H', Same H H' → PlacesAt H' at_ l d k p → Q (.ref p) H'
def spLPlacesP (K : PySem.W.Frag) : Nat → Sp
  | 0 => spNever
  | h + 1 => spLPlaces K (h + 1)
theorem PartsN.same {H H' : Hp} {at_ : List Int} {l : NmL} {ds : List PyData} {ps : List (List Int)} {qs : List PyData} {m : Nat} {D : Addr} (h : PartsN K H at_ l ds ps qs m D) (s : Same H H') : PartsN K H' at_ l ds ps qs m D := by
  obtain ⟨ts, e, hl, ht⟩ := h
  refine ⟨ts, s _ _ e, hl, fun i t et => ?_⟩
  obtain ⟨a, b, v, w, p, q, h1, h2, h3, h4, h5, h6, h7⟩ := ht i t et
  exact ⟨a, b, v, w, p, q, h1, h2, h3, s _ _ h4, s _ _ h5, dp_same s h6, h7⟩
theorem PartsN.nil {H : Hp} {at_ : List Int} {l : NmL} {ds : List PyData} {ps : List (List Int)} {qs : List PyData} {D : Addr} (e : H D = some (.lst [])) : PartsN K H at_ l ds ps qs 0 D := ⟨[], e, rfl, fun i t et => by simp at et⟩
theorem PartsN.snoc {H : Hp} {at_ : List Int} {l : NmL} {ds : List PyData} {ps : List (List Int)} {qs : List PyData} {m : Nat} {D a b : Addr} {v : V} {w : Option Str} {p : List Int} {q : PyData} (h : PartsN K H at_ l ds ps qs m D) (tds : ∀ q ∈ qs, TD q) (ep : ps[m]? = some p) (eq : qs[m]? = some q)
    (ha : H a = some (.tup [.ref b, v, optV w])) (hb : H b = some (.tup ((at_ ++ p).map V.int))) (hv : Dp K H v q) (hw : w = none ∨ ∃ wd, w = some wd ∧ (wantedD l ds)[m]? = some wd ∧ W3 wd) : ∃ acc, H D = some (.lst acc) ∧ acc.length = m ∧ PartsN K (upd H D (.lst (acc ++ [.ref a]))) at_ l ds ps qs (m + 1) D := by
  obtain ⟨ts, e, hl, ht⟩ := h
  have off : ∀ {x : Addr} {xs : List V}, H x = some (.tup xs) → (upd H D (.lst (ts ++ [.ref a]))) x = some (.tup xs) := fun z => (upd_ne (ne_of z e (by intro y; cases y))).trans z
  have offD : ∀ {q : PyData} {v : V}, q ∈ qs → Dp K H v q → Dp K (upd H D (.lst (ts ++ [.ref a]))) v q := fun m z => (tds _ m).dp (fun _ _ y => off_sqT e y) _ z
  refine ⟨ts, e, hl, ts ++ [.ref a], upd_same, by rw [List.length_append, hl]; rfl, fun i t et => ?_⟩
  by_cases hi : i < ts.length
  · rw [List.getElem?_append_left hi] at et
    obtain ⟨a', b', v', w', p', q', h1, h2, h3, h4, h5, h6, h7⟩ := ht i t et
    exact ⟨a', b', v', w', p', q', h1, h2, h3, off h4, off h5, offD (List.mem_of_getElem? h3) h6, h7⟩
  · rw [List.getElem?_append_right (by omega)] at et
    have z : i - ts.length = 0 := by
      have := (List.getElem?_eq_some_iff.mp et).1
      simp at this
      omega
    have ei : i = m := by omega
    subst ei
    rw [z] at et
    cases et
    exact ⟨a, b, v, w, p, q, rfl, ep, eq, off ha, off hb, offD (List.mem_of_getElem? eq) hv, hw⟩
theorem cat_tup {H : Hp} {q b : Addr} {at_ p : List Int} {Q : VK} (eq : H q = some (.tup (at_.map V.int))) (eb : H b = some (.tup (p.map V.int))) (np : p ≠ []) (hl : at_.length + p.length ≤ 1000) (kk : ∀ r H', Same H H' → H' r = some (.tup ((at_ ++ p).map V.int)) → Q (.ref r) H') : rCatA K (.ref q) (.ref b) H Q := by
  refine ⟨q, b, _, _, rfl, rfl, SqT.of eq, SqT.of eb, Nat.le_of_lt (small1000 (by rw [List.length_map, List.length_map]; exact hl)), fun e => ?_, fun _ e => absurd (List.map_eq_nil_iff.mp e) np, fun _ _ r nr => ?_⟩
  · have z : at_ = [] := List.map_eq_nil_iff.mp e
    subst z
    exact kk b H (Same.refl _) eb
  · exact kk r _ (new_same nr) (by rw [upd_same, List.map_append])
/-- what the law tells of the sorts of parts -/
def lwD (x : Str) : List (Option Str) := if x = "then" then [some "do", none] else if x = "if" then [some "num", none, none] else if x = "while" then [some "num", some "do"] else if x = "get" then [some "box"] else if x = "set" then [some "box", some "num"] else [some "num", some "num"]
theorem lw_tab : ∀ e ∈ forms, (e.1 = "number" ∨ e.1 = "skip" ∨ e.1 = "never") ∨ e.1 = "made" ∨ e.1 = "new" ∨ ∀ i ∈ List.range e.2.length, (match (lwD e.1)[i]? with | some none => true | some (some wd) => decide (e.2[i]? = some wd ∧ W3 wd) | none => false) = true := by decide +kernel
theorem paths_fine {ds : List PyData} {ps : List (List Int)} (h : pathsD ds = some ps) {i : Nat} {p : List Int} (e : ps[i]? = some p) : p ≠ [] ∧ p.length ≤ 2 := by
  match ds, h with
  | .str x :: rr, h =>
    by_cases e1 : x = "name"
    · subst e1
      simp only [pathsD, if_true] at h
      split at h
      · cases h
        obtain ⟨j, _, rfl⟩ := List.mem_map.mp (List.mem_of_getElem? e)
        exact ⟨by simp, by show 2 ≤ 2; decide⟩
      · cases h
    · simp only [pathsD] at h
      rw [if_neg e1] at h
      cases ep : partsT.lookup x with
      | none => rw [ep] at h; cases h
      | some is =>
        rw [ep] at h
        cases h
        obtain ⟨j, _, rfl⟩ := List.mem_map.mp (List.mem_of_getElem? e)
        exact ⟨by simp, by show 1 ≤ 2; decide⟩
def wkvs (p1 p2 p3 p4 p5 : Addr) : List (Key × V) := [(.inr "then", .ref p1), (.inr "if", .ref p2), (.inr "while", .ref p3), (.inr "get", .ref p4), (.inr "set", .ref p5)]
theorem wkvs_merge (p1 p2 p3 p4 p5 : Addr) : mergeK [] (wkvs p1 p2 p3 p4 p5) = wkvs p1 p2 p3 p4 p5 := merge_nil (by
  have e : (wkvs p1 p2 p3 p4 p5).map Prod.fst = ([.inr "then", .inr "if", .inr "while", .inr "get", .inr "set"] : List Key) := rfl
  rw [e]
  decide +kernel)
theorem wkvs_at (p1 p2 p3 p4 p5 : Addr) (x : Str) : (valV (wkvs p1 p2 p3 p4 p5) (.inr x)) = if x = "then" then some (.ref p1) else if x = "if" then some (.ref p2) else if x = "while" then some (.ref p3) else if x = "get" then some (.ref p4) else if x = "set" then some (.ref p5) else none := by
  have st : ∀ (y : Str) (v : V) (r : List (Key × V)), valV ((.inr y, v) :: r) (.inr x) = if x = y then some v else valV r (.inr x) := fun y v r => by
    unfold valV
    by_cases e : x = y
    · subst e
      rw [List.find?_cons, if_pos rfl]
      simp
    · rw [List.find?_cons, if_neg e, show decide ((((.inr y : Key), v) : Key × V).1 = .inr x) = false from decide_eq_false (fun z => e (Sum.inr.inj z).symm)]
  unfold wkvs
  rw [st, st, st, st, st]
  rfl
def UPl (K : PySem.W.Frag) (at_ : List Int) (l : NmL) (ds : List PyData) (ps : List (List Int)) (qs : List PyData) (t q : Addr) (xs : List V) (x : Str) : TS := fun D σ H1 => ∃ L : Addr, σ = [some (.ref t), some (.ref q), some (.ref L), some (.str x), none, none, none, none, none, none] ∧ SqT K H1 t xs ∧ DpAll K H1 xs ds ∧ H1 q = some (.tup (at_.map V.int)) ∧
  ∀ (Dl : Addr) (H2 : Hp) (w5 w6 w7 : Option V), Same H1 H2 → PartsN K H2 at_ l ds ps qs ps.length Dl → D.nx [some (.ref t), some (.ref q), some (.ref L), some (.str x), some (.ref Dl), w5, w6, w7, none, none] H2
theorem body_lplaces {f : Addr} {fd : FuncData} {h : Nat} (F : Fun K "_law_places" "_law_places" sLPlaces f fd) (mF : mg "_law_places" = some (.ref f)) (bF : Binds K fd ["term_here", "at"] []) (mE : mg "enumerate" = none) (mR : mg "range" = none) (mL : mg "len" = none)
    (GR : FnOk P w K mg base CX0 (h + 1) f fd ["term_here", "at"] (spLPlacesP K h)) : FnOk P w K mg base CX0 (h + 2) f fd ["term_here", "at"] (spLPlaces K (h + 1)) := by
  refine F.ok scLPlaces (fun vs H Q E h => ?_) (fun cdv A outer s H vs Q E hr hh => ?_)
  · obtain ⟨v, q, n, l, d, g, k, at_, rfl, _⟩ := h
    rfl
  · obtain ⟨v, q, n, l, d, g, k, at_, rfl, hv, td, ht, hk60, eq, hal, k⟩ := hh
    have nd := scLPlaces.nd
    have hu := hu_of hr
    obtain @⟨_, ds, ps, _, h, qs, ss, ks, form, paths, given, lq, ls, lk, along, want, parts⟩ := ht
    obtain ⟨⟩ | ⟨⟩ | ⟨⟩ | ⟨⟩ | ⟨⟩ | @⟨t, xs, _, htt, hs⟩ := hv
    obtain ⟨x, r, rfl⟩ : ∃ x r, ds = .str x :: r := by
      match ds, form with
      | .str x :: r, _ => exact ⟨x, r, rfl⟩
    obtain ⟨xr, rfl⟩ : ∃ xr, xs = .str x :: xr := by
      cases hs with
      | cons a b => cases a; exact ⟨_, rfl⟩
    have tdq : ∀ q ∈ qs, TD q := fun y hy => by
      obtain ⟨i, hi⟩ := List.getElem?_of_mem hy
      obtain ⟨hi1, _⟩ := List.getElem?_eq_some_iff.mp hi
      exact td.part (along i _ y (List.getElem?_eq_getElem (by omega)) hi)
    refine ⟨_, pss_cons (ps_par (i := 2) (j := 3) rfl nd rfl rfl (by decide) rfl rfl (pa_cons (pe_lst pa_nil) (pa_cons (pe_ix ix_tup (pv 0) pe_int (fun _ _ => rfl)) pa_nil)) (by rfl))
      (pss_cons (PS.imp (u := UPl K at_ l (.str x :: r) ps qs t q (.str x :: xr) x) (ps_if (pt_cmpR op_eq (pv 3) pe_str (nomark _))
        (pss_one (ps_setLc (i := 4) (own := [("k", 5), ("part", 6)]) (g := gTup K 2 (gCons (gName 5) (gCons (gName 6) gNil))) rfl nd rfl rfl (sw_true rfl rfl rfl (by decide +kernel)) (EtT.pi_enumT (by rfl) mE (pa_cons (pe_ix ix_tup (pv 0) pe_int (fun _ _ => rfl)) pa_nil))
          (blkOk_by (N := plN) (sc := defScope sLPlaces) (by decide +kernel)) (fun _ _ _ _ _ => pg_tup (by rfl) (pgs_cons (pg_name (i := 5) nd rfl (Or.inl rfl)) (pgs_cons (pg_name (i := 6) nd rfl (Or.inl rfl)) pgs_nil))) (fun _ _ _ _ _ => pts_nil)
          (fun _ _ _ _ _ => pe_tup (pa_cons (pe_op (show OpR _ _ (rCatA K) from op_catA) (pv 1) (pe_tup (pa_cons pe_int (pa_cons (pv 5) pa_nil)))) (pa_cons (pv 6) (pa_cons pe_non pa_nil))))))
        (pss_one (ps_if (pt_cmpR op_eq (pv 3) pe_str (nomark _))
          (pss_one (ps_set (i := 4) nd rfl (Or.inl rfl) (pe_lst (pa_cons (pe_tup (pa_cons (pe_op op_catA (pv 1) (pe_tup (pa_cons pe_int pa_nil))) (pa_cons (pe_ix ix_tup (pv 0) pe_int (fun _ _ => rfl)) (pa_cons pe_non pa_nil)))) pa_nil))))
          (pss_one (ps_if (pt_cmpR op_eq (pv 3) pe_str (nomark _))
            (pss_one (ps_set (i := 4) nd rfl (Or.inl rfl) (pe_lst (pa_cons (pe_tup (pa_cons (pe_op op_catA (pv 1) (pe_tup (pa_cons pe_int pa_nil))) (pa_cons (pe_ix ix_tup (pv 0) pe_int (fun _ _ => rfl)) (pa_cons pe_str pa_nil))))
              (pa_cons (pe_tup (pa_cons (pe_op op_catA (pv 1) (pe_tup (pa_cons pe_int pa_nil))) (pa_cons (pe_ix ix_tup (pv 0) pe_int (fun _ _ => rfl)) (pa_cons pe_str pa_nil)))) pa_nil)))))
            (pss_one (ps_if (pt_cmpR op_in_seq (pv 3) (pe_lst (pa_cons pe_str (pa_cons pe_str (pa_cons pe_str pa_nil)))) (by rfl))
              (pss_one (ps_set (i := 4) nd rfl (Or.inl rfl) (pe_lst pa_nil)))
              (pss_cons (ps_set (i := 7) nd rfl (Or.inr rfl) (pe_dget2 hu (pe_disp (pps_cons pe_str (pe_lst (pa_cons pe_str (pa_cons pe_non pa_nil))) (pps_cons pe_str (pe_lst (pa_cons pe_str (pa_cons pe_non (pa_cons pe_non pa_nil)))) (pps_cons pe_str (pe_lst (pa_cons pe_str (pa_cons pe_str pa_nil)))
                  (pps_cons pe_str (pe_lst (pa_cons pe_str pa_nil)) (pps_cons pe_str (pe_lst (pa_cons pe_str (pa_cons pe_str pa_nil))) pps_nil))))) (by rfl) (by rfl) (fun z => by cases z) (by decide)) (pv 3) (pe_lst (pa_cons pe_str (pa_cons pe_str pa_nil))) ⟨by rfl, by rfl, by rfl, by rfl⟩))
              (pss_one (ps_setLc (i := 4) (own := [("k", 5)]) (g := gName 5) rfl nd rfl rfl (sw_true rfl rfl rfl (by decide +kernel)) (pi_range2 (by rfl) mR (pa_cons pe_int (pa_cons (pe_callB call_len_seq (by rfl) mL PySem.boot_len (pa_cons (pv 0) pa_nil)) pa_nil)))
                (blkOk_by (N := plN) (sc := defScope sLPlaces) (by decide +kernel)) (fun _ _ _ _ _ => pg_name (i := 5) nd rfl (Or.inl rfl)) (fun _ _ _ _ _ => pts_nil)
                (fun _ _ _ _ _ => pe_tup (pa_cons (pe_op (show OpR _ _ (rCatA K) from op_catA) (pv 1) (pe_tup (pa_cons (pv 5) pa_nil))) (pa_cons (pe_ix (show IxR _ (rIxT K) from ix_tup) (pv 0) (pv 5) (fun _ _ => rfl)) (pa_cons (pe_ix (show IxR _ (rIx K) from ix_seq) (pv 7) (pe_op op_sub (pv 5) pe_int) (fun _ _ => rfl)) pa_nil)))))))))))))) ?iP)
      (pss_cons (ps_for PassesOwn.never rfl (pi_list (pv 4)) (pg_tup (by rfl) (pgs_cons (pg_name (i := 8) nd rfl (Or.inl rfl)) (pgs_cons (pg_name (i := 6) nd rfl (Or.inl rfl)) (pgs_cons (pg_name (i := 9) nd rfl (Or.inl rfl)) pgs_nil))))
        (pss_one (ps_set (i := 2) nd rfl (Or.inl rfl) (pe_op op_cat (pe_op op_cat (pv 2) (pe_lst (pa_cons (pe_tup (pa_cons (pv 8) (pa_cons (pv 9) pa_nil))) pa_nil))) (pe_call GR hr rfl mF F.kp bF .nil pass0 (pa_cons (pv 6) (pa_cons (pv 8) pa_nil)))))))
      (pss_one (ps_ret (pv 2))))), ?main⟩
    case iP =>
      rintro D σ H1 ⟨L, rfl, ht1, hs1, eq1, k1⟩
      refine ⟨_, rfl, rfl, _, rfl, ?_⟩
      rw [dec_str]
      by_cases e1 : x = "name"
      · subst e1
        refine iteT ?_
        simp only [pathsD, if_true] at paths
        match r, paths with
        | [y, .tuple as], paths =>
          cases paths
          obtain _ | ⟨_, hs2⟩ := hs1
          obtain _ | @⟨v1, _, _, _, h1, hs2⟩ := hs2
          obtain _ | @⟨v2, _, _, _, h2, hs2⟩ := hs2
          cases hs2
          obtain ⟨⟩ | ⟨⟩ | ⟨⟩ | ⟨⟩ | ⟨⟩ | @⟨t2, ys, _, ht2, hy2⟩ := h2
          have eqs : qs = as := by
            have z := parts_of form (by simp [pathsD]) lq along
            simp only [partsD, if_true] at z
            exact (Option.some.inj z).symm
          subst eqs
          have ly := dps_len hy2
          have lps : ((List.range qs.length).map fun i => ([2, ((i : Nat) : Int)] : List Int)).length = qs.length := by rw [List.length_map, List.length_range]
          have few : qs.length ≤ 1000 := by
            cases td with
            | tup _ all => cases all (.tuple qs) (by simp) with
              | tup few _ => exact few
          refine ⟨_, rfl, t, _, 2, _, rfl, rfl, ht1, atI_nat (j := 2) rfl, t2, ys, rfl, ht2, fun Dl nD => ?_⟩
          have sD : ∀ {H' : Hp} {o : HO}, Same H1 H' → Same H1 (upd H' Dl o) := fun z b o e => by
            rw [upd_ne (ne_of_none e nD)]
            exact z _ _ e
          refine lc_it (EtT.walk_enumT (K := K) (a := t2) (xs := ys)) (fun i H' => Same H1 H' ∧ PartsN K H' at_ l [.str "name", y, .tuple qs] ((List.range qs.length).map fun i => [2, ((i : Nat) : Int)]) qs i Dl) ⟨sD (Same.refl _), .nil upd_same⟩ (fun i H' _ ⟨s, _⟩ => sqT_same s ht2) ?_ ?_
          · rintro i z H6 H7 hi ⟨s6, pn6⟩ ⟨T1, x1, y1, rfl, nT, rfl, hx1, hy1⟩
            obtain rfl := Option.some.inj hx1
            replace hy1 : ys[i]? = some y1 := hy1
            obtain ⟨qi, eqi, hq⟩ := dps_get hy2 hy1
            have ep : ((List.range qs.length).map fun i => ([2, ((i : Nat) : Int)] : List Int))[i]? = some [2, (i : Int)] := by
              rw [List.getElem?_map, List.getElem?_range (by omega)]
              rfl
            have sT := new_same (o := .tup [.int (i : Nat), y1]) nT
            refine ⟨T1, _, rfl, .inl (.inl upd_same), rfl, _, _, rfl, _, [], rfl, rfl, ?_⟩
            refine ⟨rfl, ?_⟩
            have pn7 := pn6.same sT
            have s7 := s6.trans sT
            generalize upd H6 T1 (.tup [.int (i : Nat), y1]) = H7 at s7 pn7 ⊢
            refine ⟨_, rfl, _, rfl, by show 2 ≤ sizeLine; decide, fun u nu => ?_⟩
            have su := new_same (o := .tup [.int 2, .int (i : Nat)]) nu
            have eu : (upd H7 u (.tup [.int 2, .int (i : Nat)])) u = some (.tup (([2, (i : Int)] : List Int).map V.int)) := upd_same
            generalize upd H7 u (.tup [.int 2, .int (i : Nat)]) = H8 at su eu ⊢
            refine cat_tup ((s7.trans su) _ _ eq1) eu (by simp) (by simp only [List.length_cons, List.length_nil]; omega) fun b H9 s9 eb => ?_
            have s79 := su.trans s9
            refine ⟨_, rfl, by show 3 ≤ sizeLine; decide, fun a na => ?_⟩
            have sa := new_same (o := .tup [.ref b, y1, .non]) na
            have s7a := s79.trans sa
            obtain ⟨acc, ea, la, pn'⟩ := (pn7.same s7a).snoc (w := none) tdq ep eqi upd_same (sa _ _ eb) (dp_same (s7.trans s7a) hq) (.inl rfl)
            exact ⟨acc, ea, small1000 (by omega), sD (s7.trans s7a), pn'⟩
          · rintro H6 ⟨s6, pn6⟩
            rw [ly] at pn6
            exact k1 Dl H6 _ _ _ s6 (by rw [lps]; exact pn6)
      rw [beq_false_of_ne e1]
      refine iteF ?_
      obtain ⟨ws, ef⟩ := form_word_ex form e1
      obtain ⟨lr, things⟩ := form_at form e1 ef
      have hpo := parts_of form paths lq along
      have pt : (partsT.lookup x).map (fun ps => ps.map fun i => [i]) = some ps := by
        have z := paths
        simp only [pathsD] at z
        rw [if_neg e1] at z
        exact z
      obtain ⟨_, h4⟩ := parts_tab (x, ws) (PySem.mem_of_lookup ef)
      simp only at h4
      refine ⟨_, rfl, rfl, _, rfl, ?_⟩
      rw [dec_str]
      by_cases e2 : x = "new"
      · subst e2
        refine iteT ?_
        rw [show forms.lookup ("new" : Str) = some (["word", "figure", "some"] : List Str) by decide +kernel] at ef
        cases ef
        rw [show partsT.lookup ("new" : Str) = some [3] by decide +kernel] at pt
        cases pt
        match r, lr with
        | [y, m, c], _ =>
          have eqs : qs = [c] := by
            simp only [partsD] at hpo
            rw [if_neg (by decide +kernel), if_neg (by decide +kernel), if_neg (by decide +kernel), if_pos trivial] at hpo
            exact (Option.some.inj hpo).symm
          subst eqs
          obtain _ | ⟨_, hs2⟩ := hs1
          obtain _ | @⟨v1, _, _, _, h1, hs2⟩ := hs2
          obtain _ | @⟨v2, _, _, _, h2, hs2⟩ := hs2
          obtain _ | @⟨v3, _, _, _, h3, hs2⟩ := hs2
          cases hs2
          refine ⟨_, rfl, by show 1 ≤ sizeLine; decide, fun u nu => ?_⟩
          have su := new_same (o := .tup [.int 3]) nu
          have eu : (upd H1 u (.tup [.int 3])) u = some (.tup (([3] : List Int).map V.int)) := upd_same
          generalize upd H1 u (.tup [.int 3]) = H2 at su eu ⊢
          refine cat_tup (su _ _ eq1) eu (by simp) (by simp only [List.length_cons, List.length_nil]; omega) fun b H3 s3 eb => ?_
          have s13 := su.trans s3
          refine ⟨_, rfl, t, _, 3, _, rfl, rfl, sqT_same s13 ht1, atI_nat (j := 3) rfl, by show 3 ≤ sizeLine; decide, fun a na => ?_⟩
          have sa := new_same (o := .tup [.ref b, v3, .non]) na
          have ea : (upd H3 a (.tup [.ref b, v3, .non])) a = some (.tup [.ref b, v3, .non]) := upd_same
          generalize upd H3 a (.tup [.ref b, v3, .non]) = H4 at sa ea ⊢
          refine ⟨by show 1 ≤ sizeLine; decide, fun Dl nD => ?_⟩
          have sD := new_same (o := .lst [.ref a]) nD
          refine k1 Dl _ _ _ _ ((s13.trans sa).trans sD) ⟨[.ref a], upd_same, rfl, fun i z ez => ?_⟩
          match i, ez with
          | 0, ez =>
            cases ez
            exact ⟨a, b, v3, none, [3], c, rfl, rfl, rfl, sD _ _ ea, sD _ _ (sa _ _ eb), dp_same ((s13.trans sa).trans sD) h3, .inl rfl⟩
          | i + 1, ez => simp at ez
      rw [beq_false_of_ne e2]
      refine iteF ?_
      refine ⟨_, rfl, rfl, _, rfl, ?_⟩
      rw [dec_str]
      by_cases e3 : x = "made"
      · subst e3
        refine iteT ?_
        rw [show forms.lookup ("made" : Str) = some (["num", "word", "do"] : List Str) by decide +kernel] at ef
        cases ef
        rw [show partsT.lookup ("made" : Str) = some [1, 3] by decide +kernel] at pt
        cases pt
        match r, lr with
        | [y, m, c], _ =>
          have eqs : qs = [y, c] := by
            simp only [partsD] at hpo
            rw [if_neg (by decide +kernel), if_neg (by decide +kernel), if_pos trivial] at hpo
            exact (Option.some.inj hpo).symm
          subst eqs
          have wd : wantedD l [.str "made", y, m, c] = (["num", "do"] : List Str) := by
            rw [wanted_word (by decide +kernel) (ws := ["num", "word", "do"]) (by decide +kernel)]
            decide +kernel
          obtain _ | ⟨_, hs2⟩ := hs1
          obtain _ | @⟨v1, _, _, _, h1, hs2⟩ := hs2
          obtain _ | @⟨v2, _, _, _, h2, hs2⟩ := hs2
          obtain _ | @⟨v3, _, _, _, h3, hs2⟩ := hs2
          cases hs2
          refine ⟨_, rfl, by show 1 ≤ sizeLine; decide, fun u nu => ?_⟩
          have su := new_same (o := .tup [.int 1]) nu
          have eu : (upd H1 u (.tup [.int 1])) u = some (.tup (([1] : List Int).map V.int)) := upd_same
          generalize upd H1 u (.tup [.int 1]) = H2 at su eu ⊢
          refine cat_tup (su _ _ eq1) eu (by simp) (by simp only [List.length_cons, List.length_nil]; omega) fun b H3 s3 eb => ?_
          have s13 := su.trans s3
          refine ⟨_, rfl, t, _, 1, _, rfl, rfl, sqT_same s13 ht1, atI_nat (j := 1) rfl, by show 3 ≤ sizeLine; decide, fun a na => ?_⟩
          have sa := new_same (o := .tup [.ref b, v1, .str "num"]) na
          have ea : (upd H3 a (.tup [.ref b, v1, .str "num"])) a = some (.tup [.ref b, v1, .str "num"]) := upd_same
          generalize upd H3 a (.tup [.ref b, v1, .str "num"]) = H4 at sa ea ⊢
          have s14 := s13.trans sa
          refine ⟨_, rfl, by show 1 ≤ sizeLine; decide, fun u2 nu2 => ?_⟩
          have su2 := new_same (o := .tup [.int 3]) nu2
          have eu2 : (upd H4 u2 (.tup [.int 3])) u2 = some (.tup (([3] : List Int).map V.int)) := upd_same
          generalize upd H4 u2 (.tup [.int 3]) = H5 at su2 eu2 ⊢
          refine cat_tup ((s14.trans su2) _ _ eq1) eu2 (by simp) (by simp only [List.length_cons, List.length_nil]; omega) fun b2 H6 s6 eb2 => ?_
          have s46 := su2.trans s6
          refine ⟨_, rfl, t, _, 3, _, rfl, rfl, sqT_same (s14.trans s46) ht1, atI_nat (j := 3) rfl, by show 3 ≤ sizeLine; decide, fun a2 na2 => ?_⟩
          have sa2 := new_same (o := .tup [.ref b2, v3, .str "do"]) na2
          have ea2 : (upd H6 a2 (.tup [.ref b2, v3, .str "do"])) a2 = some (.tup [.ref b2, v3, .str "do"]) := upd_same
          generalize upd H6 a2 (.tup [.ref b2, v3, .str "do"]) = H7 at sa2 ea2 ⊢
          have s47 := s46.trans sa2
          refine ⟨by show 2 ≤ sizeLine; decide, fun Dl nD => ?_⟩
          have sD := new_same (o := .lst [.ref a, .ref a2]) nD
          have s4D := s47.trans sD
          refine k1 Dl _ _ _ _ (s14.trans s4D) ⟨[.ref a, .ref a2], upd_same, rfl, fun i z ez => ?_⟩
          match i, ez with
          | 0, ez =>
            cases ez
            exact ⟨a, b, v1, some "num", [1], y, rfl, rfl, rfl, s4D _ _ ea, s4D _ _ (sa _ _ eb), dp_same (s14.trans s4D) h1, .inr ⟨"num", rfl, by rw [wd]; rfl, .inl rfl⟩⟩
          | 1, ez =>
            cases ez
            exact ⟨a2, b2, v3, some "do", [3], c, rfl, rfl, rfl, sD _ _ ea2, sD _ _ (sa2 _ _ eb2), dp_same (s14.trans s4D) h3, .inr ⟨"do", rfl, by rw [wd]; rfl, .inr (.inl rfl)⟩⟩
          | i + 2, ez => simp at ez
      rw [beq_false_of_ne e3]
      refine iteF ?_
      -- kind_here in ["number", "skip", "never"]
      refine ⟨_, rfl, by show 3 ≤ sizeLine; decide, fun q3 nq => ?_⟩
      have s3 := new_same (o := .lst [.str "number", .str "skip", .str "never"]) nq
      refine ⟨q3, _, rfl, .inl (SqL.of upd_same), rfl, by decide, _, rfl, ?_⟩
      have ht3 := sqT_same s3 ht1
      have hs3 := dps_same s3 hs1
      have eq3 := s3 _ _ eq1
      generalize upd H1 q3 (.lst [.str "number", .str "skip", .str "never"]) = H3 at s3 ht3 hs3 eq3 ⊢
      have k3 : ∀ (Dl : Addr) (H2 : Hp) (w5 w6 w7 : Option V), Same H3 H2 → PartsN K H2 at_ l (.str x :: r) ps qs ps.length Dl → D.nx [some (.ref t), some (.ref q), some (.ref L), some (.str x), some (.ref Dl), w5, w6, w7, none, none] H2 := fun Dl H2 w5 w6 w7 s pn => k1 Dl H2 w5 w6 w7 (s3.trans s) pn
      clear k1
      by_cases e4 : x = "number" ∨ x = "skip" ∨ x = "never"
      · refine ite2 (fun _ => ?_) (fun z => ?_)
        · have eqs : qs = [] := by
            simp only [partsD] at hpo
            rw [if_neg e1, if_pos e4] at hpo
            exact (Option.some.inj hpo).symm
          have eps : ps = [] := List.length_eq_zero_iff.mp (by rw [← lq, eqs]; rfl)
          refine ⟨by show 0 ≤ sizeLine; decide, fun Dl nD => ?_⟩
          refine k3 Dl _ _ _ _ (new_same nD) ?_
          rw [eps]
          exact .nil upd_same
        · exfalso
          revert z
          rcases e4 with rfl | rfl | rfl <;> decide +kernel
      refine ite2 (fun z => ?_) (fun _ => ?_)
      · exfalso
        apply e4
        simp [inV, eqV] at z
        rcases z with z | z | z
        · exact .inl z.symm
        · exact .inr (.inl z.symm)
        · exact .inr (.inr z.symm)
      have pts : partsT.lookup x = some ((List.range ws.length).map fun i => ((i + 1 : Nat) : Int)) := by
        rcases h4 with ⟨h1, _⟩ | ⟨h1, _⟩ | ⟨h1, _⟩ | ⟨_, _, _, h3⟩
        · exact absurd h1 e4
        · exact absurd h1 e3
        · exact absurd h1 e2
        · exact h3
      have al : ws.all isTermB = true := by
        rcases flat_tab (x, ws) (PySem.mem_of_lookup ef) with z | z | z | z
        · exact absurd z e4
        · exact absurd z e3
        · exact absurd z e2
        · exact z
      have wan : wantedD l (.str x :: r) = ws := by
        rw [wanted_word e1 ef]
        exact List.filter_eq_self.mpr (List.all_eq_true.mp al)
      have lw : ∀ i < ws.length, ∃ w : Option Str, (lwD x)[i]? = some w ∧ (w = none ∨ ∃ wd, w = some wd ∧ ws[i]? = some wd ∧ W3 wd) := fun i hi => by
        rcases lw_tab (x, ws) (PySem.mem_of_lookup ef) with z | z | z | z
        · exact absurd z e4
        · exact absurd z e3
        · exact absurd z e2
        · have y := z i (List.mem_range.mpr hi)
          simp only at y
          cases ew : (lwD x)[i]? with
          | none => rw [ew] at y; cases y
          | some w =>
            rw [ew] at y
            cases w with
            | none => exact ⟨none, rfl, .inl rfl⟩
            | some wd => exact ⟨some wd, rfl, .inr ⟨wd, rfl, of_decide_eq_true y⟩⟩
      have eqs : qs = r := by
        simp only [partsD] at hpo
        rw [if_neg e1, if_neg e4, if_neg e3, if_neg e2] at hpo
        exact (Option.some.inj hpo).symm
      rw [pts] at pt
      cases pt
      subst eqs
      have few : ws.length ≤ 3 := forms_len (x, ws) (PySem.mem_of_lookup ef)
      -- wanted = {..}.get(kind_here, ["num", "num"])
      intro dd nd_
      have sd0 := new_same (o := .dK []) nd_
      have ed0 : (upd H3 dd (.dK [])) dd = some (.dK []) := upd_same
      generalize upd H3 dd (.dK []) = H4 at sd0 ed0 ⊢
      refine ⟨by show 2 ≤ sizeLine; decide, fun p1 n1 => ⟨by show 3 ≤ sizeLine; decide, fun p2 n2 => ⟨by show 2 ≤ sizeLine; decide, fun p3 n3 => ⟨by show 1 ≤ sizeLine; decide, fun p4 n4 => ⟨by show 2 ≤ sizeLine; decide, fun p5 n5 => ?_⟩⟩⟩⟩⟩
      have t1 := new_same (o := .lst [.str "do", .non]) n1
      have g1 : (upd H4 p1 (.lst [.str "do", .non])) p1 = some (.lst [.str "do", .non]) := upd_same
      generalize upd H4 p1 (.lst [.str "do", .non]) = G1 at t1 g1 n2 n3 n4 n5 ⊢
      have t2 := new_same (o := .lst [.str "num", .non, .non]) n2
      have g2 : (upd G1 p2 (.lst [.str "num", .non, .non])) p2 = some (.lst [.str "num", .non, .non]) := upd_same
      generalize upd G1 p2 (.lst [.str "num", .non, .non]) = G2 at t2 g2 n3 n4 n5 ⊢
      have t3 := new_same (o := .lst [.str "num", .str "do"]) n3
      have g3 : (upd G2 p3 (.lst [.str "num", .str "do"])) p3 = some (.lst [.str "num", .str "do"]) := upd_same
      generalize upd G2 p3 (.lst [.str "num", .str "do"]) = G3 at t3 g3 n4 n5 ⊢
      have t4 := new_same (o := .lst [.str "box"]) n4
      have g4 : (upd G3 p4 (.lst [.str "box"])) p4 = some (.lst [.str "box"]) := upd_same
      generalize upd G3 p4 (.lst [.str "box"]) = G4 at t4 g4 n5 ⊢
      have t5 := new_same (o := .lst [.str "box", .str "num"]) n5
      have g5 : (upd G4 p5 (.lst [.str "box", .str "num"])) p5 = some (.lst [.str "box", .str "num"]) := upd_same
      generalize upd G4 p5 (.lst [.str "box", .str "num"]) = G5 at t5 g5 ⊢
      have t45 := ((t1.trans t2).trans t3).trans (t4.trans t5)
      refine ⟨t45 _ _ ed0, wkvs p1 p2 p3 p4 p5, rfl, by show 5 ≤ 15; decide, ?_⟩
      rw [wkvs_merge]
      have offd : ∀ {b : Addr} {o : HO}, G5 b = some o → b ≠ dd → (upd G5 dd (.dK (wkvs p1 p2 p3 p4 p5))) b = some o := fun e n => (upd_ne n).trans e
      have edd : (upd G5 dd (.dK (wkvs p1 p2 p3 p4 p5))) dd = some (.dK (wkvs p1 p2 p3 p4 p5)) := upd_same
      have sG : Same H3 (upd G5 dd (.dK (wkvs p1 p2 p3 p4 p5))) := fun b o e => offd (t45 _ _ (sd0 _ _ e)) (ne_of_none e nd_)
      have nl : ∀ {p : Addr} {ys : List V} {G : Hp}, G p = some (.lst ys) → Same G G5 → p ≠ dd := fun e s z => by
        have y := s _ _ e
        rw [z, t45 _ _ ed0] at y
        cases y
      have g1' := offd (t5 _ _ (t4 _ _ (t3 _ _ (t2 _ _ g1)))) (nl g1 ((t2.trans t3).trans (t4.trans t5)))
      have g2' := offd (t5 _ _ (t4 _ _ (t3 _ _ g2))) (nl g2 (t3.trans (t4.trans t5)))
      have g3' := offd (t5 _ _ (t4 _ _ g3)) (nl g3 (t4.trans t5))
      have g4' := offd (t5 _ _ g4) (nl g4 t5)
      have g5' := offd g5 (nl g5 (Same.refl _))
      generalize upd G5 dd (.dK (wkvs p1 p2 p3 p4 p5)) = H5 at sG edd g1' g2' g3' g4' g5' ⊢
      refine ⟨dd, rfl, .inl ⟨_, .inl edd⟩, _, rfl, by show 2 ≤ sizeLine; decide, fun p6 n6 => ?_⟩
      have s6 := new_same (o := .lst [.str "num", .str "num"]) n6
      have g6 : (upd H5 p6 (.lst [.str "num", .str "num"])) p6 = some (.lst [.str "num", .str "num"]) := upd_same
      have wdg : DGet (upd H5 p6 (.lst [.str "num", .str "num"])) dd (.str x) (valV (wkvs p1 p2 p3 p4 p5) (.inr x)) := DGet.k (k := (.inr x : Key)) (s6 _ _ edd)
      refine ⟨_, wdg, ?_⟩
      have wat : ∃ pw : Addr, ((valV (wkvs p1 p2 p3 p4 p5) (.inr x)).getD (.ref p6)) = .ref pw ∧ (upd H5 p6 (.lst [.str "num", .str "num"])) pw = some (.lst ((lwD x).map optV)) := by
        rw [wkvs_at]
        unfold lwD
        by_cases c1 : x = "then"
        · rw [if_pos c1, if_pos c1]; exact ⟨p1, rfl, s6 _ _ g1'⟩
        rw [if_neg c1, if_neg c1]
        by_cases c2 : x = "if"
        · rw [if_pos c2, if_pos c2]; exact ⟨p2, rfl, s6 _ _ g2'⟩
        rw [if_neg c2, if_neg c2]
        by_cases c3 : x = "while"
        · rw [if_pos c3, if_pos c3]; exact ⟨p3, rfl, s6 _ _ g3'⟩
        rw [if_neg c3, if_neg c3]
        by_cases c4 : x = "get"
        · rw [if_pos c4, if_pos c4]; exact ⟨p4, rfl, s6 _ _ g4'⟩
        rw [if_neg c4, if_neg c4]
        by_cases c5 : x = "set"
        · rw [if_pos c5, if_pos c5]; exact ⟨p5, rfl, s6 _ _ g5'⟩
        rw [if_neg c5, if_neg c5]
        exact ⟨p6, rfl, g6⟩
      obtain ⟨pw, epw, gw⟩ := wat
      rw [epw]
      have sH := sG.trans s6
      generalize upd H5 p6 (.lst [.str "num", .str "num"]) = H6 at sH gw ⊢
      have ly : xr.length = qs.length := by
        have := dps_len hs3
        simpa using this
      have lps : (((List.range ws.length).map fun i => ((i + 1 : Nat) : Int)).map fun i => [i]).length = ws.length := by rw [List.length_map, List.length_map, List.length_range]
      -- parts = [.. for k in range(1, len(term_here))]
      have ln : (V.str x :: xr).length = ws.length + 1 := by
        rw [List.length_cons, ly, lr]
      refine ⟨_, rfl, t, _, rfl, .inr (sqT_same sH ht3), 1, _, rfl, ⟨by decide, by decide, by omega, by omega⟩, fun Dl nD => ?_⟩
      have en : ((((V.str x :: xr).length : Nat) : Int) - 1).toNat = ws.length := by
        rw [ln]
        omega
      rw [en]
      have sD : ∀ {H' : Hp} {o : HO}, Same H6 H' → Same H6 (upd H' Dl o) := fun z b o e => by
        rw [upd_ne (ne_of_none e nD)]
        exact z _ _ e
      refine lc_range (lo := 1) (n := ws.length) (fun i H' => Same H6 H' ∧ PartsN K H' at_ l (.str x :: qs) (((List.range ws.length).map fun i => ((i + 1 : Nat) : Int)).map fun i => [i]) qs i Dl) ⟨sD (Same.refl _), .nil upd_same⟩ ?_ ?_
      · rintro i H7 hi ⟨s7, pn7⟩
        refine ⟨rfl, ?_⟩
        have lt : i < qs.length := by omega
        have eqi := List.getElem?_eq_getElem lt
        have ep : (((List.range ws.length).map fun i => ((i + 1 : Nat) : Int)).map fun i => [i])[i]? = some [((i + 1 : Nat) : Int)] := by
          rw [List.getElem?_map, List.getElem?_map, List.getElem?_range hi]
          rfl
        obtain ⟨w, ew, hw⟩ := lw i hi
        have s37 := sH.trans s7
        have e1k : (1 : Int) + (i : Nat) = ((i + 1 : Nat) : Int) := by omega
        rw [e1k]
        refine ⟨_, rfl, _, rfl, by show 1 ≤ sizeLine; decide, fun u nu => ?_⟩
        have su := new_same (o := .tup [.int ((i + 1 : Nat) : Int)]) nu
        have eu : (upd H7 u (.tup [.int ((i + 1 : Nat) : Int)])) u = some (.tup (([((i + 1 : Nat) : Int)] : List Int).map V.int)) := upd_same
        generalize upd H7 u (.tup [.int ((i + 1 : Nat) : Int)]) = H8 at su eu ⊢
        refine cat_tup ((s37.trans su) _ _ eq3) eu (by simp) (by simp only [List.length_cons, List.length_nil]; omega) fun b H9 s9 eb => ?_
        have s79 := su.trans s9
        have s39 := s37.trans s79
        have hs9 := dps_same s39 hs3
        obtain ⟨v, ev⟩ : ∃ v, (V.str x :: xr)[i + 1]? = some v := ⟨_, List.getElem?_eq_getElem (by omega)⟩
        obtain ⟨qi, eqi', hv⟩ := dps_get hs9 ev
        rw [List.getElem?_cons_succ] at eqi'
        refine ⟨_, rfl, _, rfl, t, _, ((i + 1 : Nat) : Int), v, rfl, rfl, sqT_same s39 ht3, atI_nat ev, _, rfl, _, rfl, _, _, rfl, rfl, ?_⟩
        have ei : ((i + 1 : Nat) : Int) - 1 = ((i : Nat) : Int) := by omega
        show rIx K (.ref pw) (.int (((i + 1 : Nat) : Int) - 1)) H9 _
        rw [ei]
        refine .inl ⟨pw, _, ((i : Nat) : Int), optV w, rfl, rfl, SqL.of ((s7.trans s79) _ _ gw), atI_nat (by rw [List.getElem?_map, ew]; rfl), by show 3 ≤ sizeLine; decide, fun a na => ?_⟩
        have sa := new_same (o := .tup [.ref b, v, optV w]) na
        have s7a := s79.trans sa
        obtain ⟨acc, ea, la, pn'⟩ := (pn7.same s7a).snoc (w := w) tdq ep eqi' upd_same (sa _ _ eb) (dp_same sa hv) (by rw [wan]; exact hw)
        exact ⟨acc, ea, small1000 (by omega), sD (s7.trans s7a), pn'⟩
      · rintro H7 ⟨s7, pn7⟩
        exact k3 Dl H7 _ _ _ (sH.trans s7) (by rw [lps]; exact pn7)
    case main =>
      -- found, kind_here = [], term_here[0]
      refine ⟨by show 0 ≤ sizeLine; decide, fun L nL => ?_⟩
      have s1 := new_same (o := .lst []) nL
      have eL : (upd H L (.lst [])) L = some (.lst []) := upd_same
      generalize upd H L (.lst []) = H1 at s1 eL ⊢
      refine ⟨_, rfl, t, _, 0, _, rfl, rfl, sqT_same s1 htt, atI_nat (j := 0) rfl, _, _, rfl, ?_⟩
      refine ⟨L, rfl, sqT_same s1 htt, dps_same s1 hs, s1 _ _ eq, fun Dl H2 w5 w6 w7 s2 pn => ?_⟩
      obtain ⟨ts, eD, lt, ht⟩ := id pn
      -- for place, part, sort_here in parts
      have s12 := s1.trans s2
      refine ⟨_, rfl, Dl, rfl, ⟨_, SqL.of eD⟩, for_list (K := K) (a := Dl) (xs := ts) (fun i σ H' => ∃ (L : Addr) (w8 w6' w9 : Option V), σ = [some (.ref t), some (.ref q), some (.ref L), some (.str x), some (.ref Dl), w5, w6', w7, w8, w9] ∧ Same H2 H' ∧ PlacesAt H' at_ l (.tuple (.str x :: r)) (1 + (ks.take i).sum) L)
        ⟨L, none, w6, none, rfl, Same.refl _, [], s2 _ _ eL, by simp, by simp⟩ (fun i σ H' _ ⟨_, _, _, _, _, s, _⟩ => SqL.of (s _ _ eD)) ?_ ?_⟩
      · rintro i y σ H6 hy ⟨L6, w8, w6', w9, rfl, s6, pl6⟩
        obtain ⟨a, b, v, w, p, qi, rfl, ep, eqi, ha0, hb0, hv0, hw⟩ := ht i y hy
        have ha := s6 _ _ ha0
        have hb := s6 _ _ hb0
        have hv := dp_same s6 hv0
        refine ⟨a, _, rfl, .inl (.inl ha), rfl, _, _, rfl, _, _, rfl, _, [], rfl, rfl, ?_⟩
        obtain ⟨ts6, e6, l6, h6⟩ := pl6
        have hi := (List.getElem?_eq_some_iff.mp ep).1
        have hsi := List.getElem?_eq_getElem (show i < ss.length by omega)
        have hki := List.getElem?_eq_getElem (show i < ks.length by omega)
        have al := along i p qi ep eqi
        have ty := parts i qi _ _ eqi hsi hki
        have tsum := take_sum hki
        obtain ⟨pnn, pl2⟩ := paths_fine paths ep
        -- found + [(place, sort_here)]
        refine ⟨_, rfl, _, rfl, _, rfl, by show 2 ≤ sizeLine; decide, fun t1 n1 => ?_⟩
        have s7 := new_same (o := .tup [.ref b, optV w]) n1
        have e1 : (upd H6 t1 (.tup [.ref b, optV w])) t1 = some (.tup [.ref b, optV w]) := upd_same
        generalize upd H6 t1 (.tup [.ref b, optV w]) = H7 at s7 e1 ⊢
        refine ⟨by show 1 ≤ sizeLine; decide, fun t2 n2 => ?_⟩
        have s8 := new_same (o := .lst [.ref t1]) n2
        have e2 : (upd H7 t2 (.lst [.ref t1])) t2 = some (.lst [.ref t1]) := upd_same
        generalize upd H7 t2 (.lst [.ref t1]) = H8 at s8 e2 ⊢
        have s68 := s7.trans s8
        refine ⟨L6, t2, ts6, [.ref t1], rfl, rfl, s68 _ _ e6, e2, Nat.le_of_lt (small1000 (by simp only [List.length_cons, List.length_nil]; omega)), fun t3 n3 => ?_⟩
        have s9 := new_same (o := .lst (ts6 ++ [.ref t1])) n3
        have e3 : (upd H8 t3 (.lst (ts6 ++ [.ref t1]))) t3 = some (.lst (ts6 ++ [.ref t1])) := upd_same
        generalize upd H8 t3 (.lst (ts6 ++ [.ref t1])) = H9 at s9 e3 ⊢
        have s69 := s68.trans s9
        have pl0 : Pl l (.tuple (.str x :: r)) p w (innerD l (.str x :: r) (i : Nat)) := by
          rcases hw with rfl | ⟨wd, rfl, ewd, w3⟩
          · have z := Pl.cons (l := l) (p := []) (w := none) paths ep al .nil
            rw [List.append_nil] at z
            exact z
          · exact .last paths ep al ewd w3
        -- _law_places(part, place)
        refine ⟨_, rfl, _, rfl, ?_⟩
        cases h with
        | zero => exact absurd ty.pos.2 (by omega)
        | succ h =>
        refine ⟨v, b, n, innerD l (.str x :: r) (i : Nat), qi, _, _, at_ ++ p, rfl, dp_same s69 hv, tdq qi (List.mem_of_getElem? eqi), ty, by omega, s69 _ _ hb, by rw [List.length_append]; omega, fun pr H10 s10 pl10 => ?_⟩
        obtain ⟨ts10, e10, l10, h10⟩ := pl10
        have s610 := s69.trans s10
        refine ⟨t3, pr, _, _, rfl, rfl, s10 _ _ e3, e10, Nat.le_of_lt (small1000 (by rw [List.length_append]; simp only [List.length_cons, List.length_nil]; omega)), fun t4 n4 => ?_⟩
        have s11 := new_same (o := .lst (ts6 ++ [.ref t1] ++ ts10)) n4
        have s611 := s610.trans s11
        refine ⟨t4, _, _, _, rfl, s6.trans s611, ts6 ++ [.ref t1] ++ ts10, upd_same, ?_, fun y hy => ?_⟩
        · have e0 : (ks.take (i + 1)).sum = (ks.take i).sum + ks[i] := by
            rw [List.take_add_one, hki, List.sum_append]
            simp
          simp only [List.length_append, List.length_cons, List.length_nil]
          omega
        · rcases List.mem_append.mp hy with hy | hy
          · rcases List.mem_append.mp hy with hy | hy
            · obtain ⟨a', b', p', w', l', z1, z2, z3, z4, z5⟩ := h6 y hy
              exact ⟨a', b', p', w', l', z1, s611 _ _ z2, s611 _ _ z3, z4, z5⟩
            · rw [List.mem_singleton] at hy
              subst hy
              exact ⟨t1, b, p, w, _, rfl, s11 _ _ (s10 _ _ (s9 _ _ (s8 _ _ e1))), s611 _ _ hb, pl0, pnn⟩
          · obtain ⟨a', b', p', w', l', z1, z2, z3, z4, z5⟩ := h10 y hy
            refine ⟨a', b', p ++ p', w', l', z1, s11 _ _ z2, ?_, .cons paths ep al z4, by simp [z5]⟩
            rw [← List.append_assoc]
            exact s11 _ _ z3
      · rintro σ H6 ⟨L6, w8, w6', w9, rfl, s6, pl6⟩
        have tk : ks.take ts.length = ks := List.take_of_length_le (by omega)
        rw [tk] at pl6
        exact ⟨_, rfl, k L6 H6 (s12.trans s6) pl6⟩
theorem places_all {f : Addr} {fd : FuncData} (F : Fun K "_law_places" "_law_places" sLPlaces f fd) (mF : mg "_law_places" = some (.ref f)) (bF : Binds K fd ["term_here", "at"] []) (mE : mg "enumerate" = none) (mR : mg "range" = none) (mL : mg "len" = none) :
    ∀ h : Nat, FnOk P w K mg base CX0 (h + 2) f fd ["term_here", "at"] (spLPlaces K (h + 1))
  | 0 => body_lplaces (h := 0) F mF bF mE mR mL (show FnOk P w K mg base CX0 (0 + 1) f fd ["term_here", "at"] (spLPlacesP K 0) from fnNever)
  | h + 1 => body_lplaces (h := h + 1) F mF bF mE mR mL (show FnOk P w K mg base CX0 (h + 1 + 1) f fd ["term_here", "at"] (spLPlacesP K (h + 1)) from places_all F mF bF mE mR mL h)
end
end Jd
/-! tuple * 1: the tuple itself; tuple * n for n from 1 on. -/
namespace L2
open PySem PySem.Spec PyProof.Rows
theorem tuple_mulOne (l : Addr) (items : Array Value) (n : Nat) (dd : Option Addr) (sl : Array (Option Value)) (u : Tok) :
    Meets (Builtin.«tuple.__mul__» ⟨[.ref l, .int 1 u], []⟩) (fun _ R s => s.heap.get? l = some { cls := .type "tuple", dict := dd, data := .seq items n, slots := sl } ∧ R (.ok (.ret (.ref l))) s) :=
  .of_wp fun prog w A R s h => by
    obtain ⟨hp, g, d, tk, os⟩ := s
    obtain ⟨hl, h⟩ := h
    have f1 := AutoSeq1.idx_int
    wp_walk using wpAny_loadPart' hl
    exact ⟨_, rfl, h⟩
/-- a tuple, not empty, any number of times from one on -/
def rRep1 (K : PySem.W.Frag) : R2 := fun x y H Q => ∃ l k xs, x = .ref l ∧ y = .int k ∧ SqT K H l xs ∧ xs ≠ [] ∧ 1 ≤ k ∧ k ≤ 1000 ∧ xs.length ≤ 1000 ∧ (k = 1 → Q (.ref l) H) ∧ (k ≠ 1 → ∀ p, H p = none → Q (.ref p) (upd H p (.tup (List.replicate k.toNat xs).flatten)))
theorem op_rep1 {X : Cx} : OpR X (binaryOp .Mult) (rRep1 X.K) := by
  intro pins s σ H x y v u Q I rx ry h
  obtain ⟨l, k, xs, rfl, rfl, hT, hne, h1, h2, hz, q1, q2⟩ := h
  by_cases e : k = 1
  · subst e
    cases rx
    obtain ⟨t, rfl⟩ := ry
    obtain ⟨its, r, ⟨⟨cls, dd, data, sl⟩, ho, hc, n, hd⟩, hs⟩ := I.tuple hT
    simp only at hc hd
    subst hc hd
    exact wpAny_binaryOp_repeat_ref (T := "tuple") (U := "int") (by decide) ⟨_, ho, rfl⟩ (fun s' => typeIs_int s' 1 t) noFill_tuple_mul F.fills_int_mul F.slot_int_rmul repeat_tuple F.slot_int_index.lookup
      (call_meets F.slot_int_rmul (typeIs_int s 1 t) F.entry_int_rmul (F.args_int_rmul_2 _ _) (int_rmul_tuple 1 t l its.toArray n dd sl)
        ⟨ho, rfl, ⟨_, ho, rfl⟩, call_meets F.slot_tuple_mul ⟨_, ho, rfl⟩ F.entry_tuple_mul (F.args_tuple_mul_2 _ _) (tuple_mulOne l its.toArray n dd sl t) ⟨ho, .ref l, H, I, rfl, q1 rfl⟩⟩)
  · exact op_repT pins s σ H _ _ v u Q I rx ry ⟨l, k, xs, rfl, rfl, hT, hne, by omega, h2, hz, q2 e⟩
end L2
/-! _law_odd of law_k03: things that are no terms. -/
namespace Jd
open PySem PySem.Spec PyProof.Rows L2 RZ Dk
abbrev sLOdd : Stmt := Jd.top 65
abbrev odN : List Str := ["draw", "size", "names_here", "piece", "found", "word"]
theorem scLOdd : FnScope odN ["draw", "size", "names_here", "piece"] (defScope sLOdd) := ⟨rfl, rfl, rfl, by decide +kernel, rfl, by decide +kernel, by decide +kernel⟩
/-- what words mean at a place, seen from outside -/
def ScopeOf (l l' : NmL) : Prop := ∀ y : Str, l'.lookup y = l.lookup y ∨ (y ≠ "other" ∧ ∃ g, l'.lookup y = some ([], g))
theorem look_put (l : NmL) (y z : Str) (g : List PyData × Str) : (putL l y g).lookup z = if z = y then some g else l.lookup z := by
  unfold putL
  by_cases h : (l.any fun q => decide (q.1 = y)) = true
  · rw [if_pos h]
    induction l with
    | nil => simp at h
    | cons q l ih =>
      obtain ⟨q1, q2⟩ := q
      by_cases e : q1 = y
      · subst e
        by_cases ez : z = q1
        · subst ez
          simp [List.lookup]
        · have b : (z == q1) = false := beq_false_of_ne ez
          rw [if_neg ez]
          by_cases h2 : (l.any fun q => decide (q.1 = q1)) = true
          · have y := ih h2
            rw [if_neg ez] at y
            simp only [List.map_cons, List.lookup, b]
            simp only [if_true, b]
            exact y
          · have same : l.map (fun q => if q.1 = q1 then (q.1, g) else q) = l := by
              have this : ∀ q ∈ l, (if q.1 = q1 then (q.1, g) else q) = q := fun q hq => by
                rw [if_neg]
                intro e
                exact h2 (List.any_eq_true.mpr ⟨q, hq, decide_eq_true e⟩)
              exact (List.map_congr_left this).trans (List.map_id' l)
            simp only [List.map_cons, List.lookup, same]
            simp only [if_true, b]
      · have h2 : (l.any fun q => decide (q.1 = y)) = true := by
          rw [List.any_cons, decide_eq_false e, Bool.false_or] at h
          exact h
        have y := ih h2
        simp only [List.map_cons, if_neg e, List.lookup]
        by_cases ez : z = q1
        · subst ez
          rw [if_neg e]
          simp
        · rw [beq_false_of_ne ez]
          exact y
  · rw [if_neg h]
    have none_ : l.lookup y = none := by
      cases e : l.lookup y with
      | none => rfl
      | some v => exact absurd (List.any_eq_true.mpr ⟨(y, v), PySem.mem_of_lookup e, decide_eq_true rfl⟩) h
    rw [List.lookup_append]
    by_cases ez : z = y
    · subst ez
      rw [none_, if_pos rfl]
      simp [List.lookup]
    · rw [if_neg ez]
      have b : (z == y) = false := beq_false_of_ne ez
      simp [List.lookup, b]
theorem gives_mem {ds : List PyData} {k : Int} {y : Str} (h : givesD ds k = some y) : PyData.str y ∈ ds := by
  match ds, h with
  | .str x :: r, h =>
    simp only [givesD] at h
    split at h
    · split at h
      · cases h; simp
      · cases h
    · split at h
      · split at h
        · cases h; simp
        · cases h
      · cases h
theorem inS_fst (ds : List PyData) : ∃ g, inS ds = ([], g) := by
  unfold inS
  split
  · split
    · exact ⟨_, rfl⟩
    · exact ⟨_, rfl⟩
  · exact ⟨_, rfl⟩
theorem ScopeOf.refl (l : NmL) : ScopeOf l l := fun y => .inl rfl
theorem ScopeOf.inner {l l' : NmL} {ds : List PyData} {k : Int} (td : TD (.tuple ds)) (h : ScopeOf (innerD l ds k) l') : ScopeOf l l' := fun y => by
  rcases h y with e | e
  · unfold innerD at e
    cases eg : givesD ds k with
    | none => rw [eg] at e; exact .inl e
    | some z =>
      rw [eg] at e
      simp only at e
      rw [look_put] at e
      by_cases ez : y = z
      · rw [if_pos ez] at e
        obtain ⟨g, eS⟩ := inS_fst ds
        rw [eS] at e
        refine .inr ⟨?_, g, e⟩
        rw [ez]
        cases td with
        | tup _ all => cases all _ (gives_mem eg) with
          | str h => exact h.2
      · rw [if_neg ez] at e
        exact .inl e
  · exact .inr e
theorem Pl.scope {l : NmL} {d : PyData} {p : List Int} {w : Option Str} {l' : NmL} (h : Pl l d p w l') (td : TD d) : ScopeOf l l' := by
  induction h with
  | nil => exact .refl _
  | cons paths hp al t ih => exact ScopeOf.inner td (ih (td.part al))
  | last paths hp al want _ => exact ScopeOf.inner td (.refl _)
/-! ### no shapes of terms -/
theorem no_word {n : Int} {l : NmL} {x : Str} {r : List PyData} {ws : List Str} (e : x ≠ "name") (f : forms.lookup x = some ws) (h : r.length ≠ ws.length ∨ ∃ (i : Nat) (wd : Str) (t : PyData), ws[i]? = some wd ∧ r[i]? = some t ∧ thingD n wd t = false) : formD n l (.tuple (.str x :: r)) = false := by
  cases ef : formD n l (.tuple (.str x :: r)) with
  | false => rfl
  | true =>
    obtain ⟨h1, h2⟩ := form_at ef e f
    rcases h with z | ⟨i, wd, t, z1, z2, z3⟩
    · exact absurd h1 z
    · rw [h2 i wd t z1 z2] at z3
      cases z3
theorem no_name {n : Int} {l : NmL} {r : List PyData} (h : useD l (.str "name" :: r) = false) : formD n l (.tuple (.str "name" :: r)) = false := by
  simp only [formD, if_true]
  exact h
theorem no_more {n : Int} {l : NmL} {ds : List PyData} (h : formD n l (.tuple ds) = true) : formD n l (.tuple (ds ++ [.int 1])) = false := by
  match ds, h with
  | .str x :: r, h =>
    by_cases e : x = "name"
    · subst e
      refine no_name ?_
      simp only [formD, if_true] at h
      match r, h with
      | [.str y, .tuple as], h => rfl
    · obtain ⟨ws, f⟩ := form_word_ex h e
      obtain ⟨h1, _⟩ := form_at h e f
      exact no_word e f (.inl (by show (r ++ [PyData.int 1]).length ≠ ws.length; rw [List.length_append, h1]; simp))
theorem no_head {n : Int} {l : NmL} {x : Str} {y : PyData} {r : List PyData} (h : formD n l (.tuple (.str x :: y :: r)) = true) : formD n l (.tuple [.str x]) = false := by
  by_cases e : x = "name"
  · subst e
    exact no_name rfl
  · obtain ⟨ws, f⟩ := form_word_ex h e
    obtain ⟨h1, _⟩ := form_at h e f
    exact no_word e f (.inl (by rw [← h1]; simp))
/-- a thing that is no term -/
def BadV (K : PySem.W.Frag) (H : Hp) (d l : Addr) (n : Int) (nm : NmL) (x : V) : Prop := ∃ b, Dp K (Cut H d l) x b ∧ OD b ∧ formD n nm b = false
def AllBad (K : PySem.W.Frag) (H : Hp) (d l : Addr) (n : Int) (nm : NmL) (xs : List V) : Prop := ∀ x ∈ xs, BadV K H d l n nm x
section
variable {K : PySem.W.Frag} {H H' : Hp} {d l c : Addr} {n : Int} {nm : NmL}
theorem BadV.same {x : V} (h : BadV K H d l n nm x) (s : Same H H') : BadV K H' d l n nm x := by
  obtain ⟨b, h1, h2, h3⟩ := h
  exact ⟨b, dp_same (cut_same s) h1, h2, h3⟩
theorem BadV.but {x : V} (h : BadV K H d l n nm x) (B : But H H' d l) : BadV K H' d l n nm x := by
  obtain ⟨b, h1, h2, h3⟩ := h
  exact ⟨b, dp_same (cut_but B) h1, h2, h3⟩
theorem AllBad.same {xs : List V} (h : AllBad K H d l n nm xs) (s : Same H H') : AllBad K H' d l n nm xs := fun x hx => (h x hx).same s
theorem AllBad.nil : AllBad K H d l n nm [] := fun x hx => by cases hx
theorem AllBad.snoc {xs : List V} {x : V} (h : AllBad K H d l n nm xs) (hx : BadV K H d l n nm x) : AllBad K H d l n nm (xs ++ [x]) := fun y hy => by
  rcases List.mem_append.mp hy with z | z
  · exact h y z
  · rw [List.mem_singleton] at z
    rw [z]
    exact hx
theorem AllBad.app {xs ys : List V} (h : AllBad K H d l n nm xs) (h2 : AllBad K H d l n nm ys) : AllBad K H d l n nm (xs ++ ys) := fun y hy => by
  rcases List.mem_append.mp hy with z | z
  · exact h y z
  · exact h2 y z
end
theorem od_leaf {d : PyData} (h : ∀ ds, d ≠ .tuple ds) (s : ∀ x, d ≠ .str x) : OD d := .leaf h fun x e => absurd e (s x)
theorem od_str {x : Str} (h : x.length ≤ 1000) : OD (.str x) := .leaf (fun ds e => by cases e) fun y e => by cases e; exact Nat.le_of_lt (small1000 h)
theorem od_tup {ds : List PyData} (few : ds.length ≤ 1000) (all : ∀ d ∈ ds, OD d) : OD (.tuple ds) := .tup few all
theorem od_more {ds : List PyData} (td : TD (.tuple ds)) (h : ds.length ≤ 900) : OD (.tuple (ds ++ [.int 1])) := .tup (by rw [List.length_append, List.length_singleton]; omega) fun y hy => by
  rcases List.mem_append.mp hy with z | z
  · cases td with
    | tup _ all => exact (all y z).od
  · rw [List.mem_singleton] at z
    rw [z]
    exact od_leaf (fun ds e => by cases e) (fun x e => by cases e)
theorem dps_rep {K : PySem.W.Frag} {H : Hp} {v : V} {d : PyData} (h : Dp K H v d) : ∀ m : Nat, DpAll K H (List.replicate m v) (List.replicate m d)
  | 0 => .nil
  | m + 1 => .cons h (dps_rep h m)
theorem od_nil : ∀ d ∈ ([] : List PyData), OD d := fun d h => by cases h
theorem od_cons {a : PyData} {r : List PyData} (h : OD a) (t : ∀ d ∈ r, OD d) : ∀ d ∈ a :: r, OD d := fun d hd => by
  rcases List.mem_cons.mp hd with rfl | z
  · exact h
  · exact t d z
section
variable {P : Program} {w : World} {K : PySem.W.Frag} {mg : Str → Option Value} {base : Heap}
def spLOdd (K : PySem.W.Frag) : Sp := fun vs H Q _ => ∃ (d l c a : Addr) (v : V) (n : Int) (nm l' : NmL) (dp : PyData), vs = [.ref d, .int n, .ref a, v] ∧ In0 K H n nm d l c a ∧ nm.length ≤ 4 ∧ Dp K (Cut H d l) v dp ∧ TD dp ∧ formD n l' dp = true ∧ ScopeOf nm l' ∧
  ∀ v' b H', DrawAt H' d l c → But H H' d l → Dp K (Cut H' d l) v' b → OD b → formD n l' b = false → Q v' H'
/-- (piece[0],) or ("skip", 1) -/
def tHead (K : PySem.W.Frag) (d l c : Addr) (n : Int) (l' : NmL) (ds : List PyData) : TE := fun σ H Q => ∃ (t : Addr) (xs : List V), σ[3]? = some (some (.ref t)) ∧ SqT K H t xs ∧ DpAll K (Cut H d l) xs ds ∧ DrawAt H d l c ∧ TD (.tuple ds) ∧ formD n l' (.tuple ds) = true ∧ ∀ x H', Same H H' → BadV K H' d l n l' x → Q x H'
theorem nm_entry {H : Hp} {n : Int} {nm : NmL} {d l c a : Addr} (I : In0 K H n nm d l c a) {q : Str × (List PyData × Str)} (hq : q ∈ nm) : ∃ (b2 b3 : Addr) (us : List V), DGet H a (.str q.1) (some (.ref b2)) ∧ SqT K H b2 [.ref b3, .str q.2.2] ∧ SqT K H b3 us ∧ us.length = q.2.1.length ∧ us.length ≤ 3 := by
  obtain ⟨kvs, e, hk, hv⟩ := I.N
  obtain ⟨_, ss, es, l3, _⟩ := I.G.ok q hq
  have lq : nm.lookup q.1 = some q.2 := look_nodup I.G.nd hq
  rcases val_look q.1 hk hv with ⟨a1, _⟩ | ⟨ts', g', v, a1, a2, a3⟩
  · rw [a1] at lq
    cases lq
  rw [lq] at a1
  have a1' := Option.some.inj a1
  have ets : q.2.1 = ts' := by rw [a1']
  have eg : q.2.2 = g' := by rw [a1']
  obtain ⟨⟩ | ⟨⟩ | ⟨⟩ | ⟨⟩ | ⟨⟩ | @⟨b2, zs, _, hb2, hs2⟩ := a3
  obtain _ | @⟨z0, _, _, _, g0, hs2⟩ := hs2
  obtain _ | @⟨z1, _, _, _, g1, hs3⟩ := hs2
  cases hs3
  cases g1
  obtain ⟨⟩ | ⟨⟩ | ⟨⟩ | ⟨⟩ | ⟨⟩ | @⟨b3, us, _, hb3, hs4⟩ := g0
  have lu := dps_len hs4
  refine ⟨b2, b3, us, by rw [← a2]; exact DGet.k (k := (.inr q.1 : Key)) e, eg ▸ hb2, hb3, by rw [ets, lu], ?_⟩
  rw [lu, ← ets, es, List.length_map]
  exact l3
theorem no_wordless {n : Int} {l : NmL} {x : Str} {r : List PyData} (e : x ≠ "name") (f : forms.lookup x = none) : formD n l (.tuple (.str x :: r)) = false := by
  simp only [formD]
  rw [if_neg e, f]
theorem fig_size (n : Int) : thingD n "figure" (.int n) = false := by
  unfold thingD
  rw [if_pos rfl]
  simp only [withinD]
  rw [show decide (n ≤ n - 1) = false from decide_eq_false (by omega), Bool.and_false]
theorem fig_neg (n : Int) : thingD n "figure" (.int (-1)) = false := by
  unfold thingD
  rw [if_pos rfl]
  rfl
theorem no_other {l' : NmL} (h : l'.lookup ("other" : Str) = none) : useD l' [.str "name", .str "other", .tuple []] = false := by
  simp only [useD, h, Bool.and_false]
theorem no_args {l' : NmL} {y : Str} {as : List PyData} (h : ∀ ts g, l'.lookup y = some (ts, g) → as.length ≠ ts.length) : useD l' [.str "name", .str y, .tuple as] = false := by
  simp only [useD]
  cases e : l'.lookup y with
  | none => simp
  | some tg =>
    obtain ⟨ts, g⟩ := tg
    have z := h ts g e
    simp
    intro _
    exact z
theorem ok_lodd {f fP : Addr} {fd fdP : FuncData} (F : Fun K "_law_odd" "_law_odd" sLOdd f fd) (mS : mg "sorted" = none) (mL : mg "len" = none) (mLi : mg "list" = none) (GP : Has P w K mg base CX0 "_law_pick" 3 ["draw", "some"] (spPick K) fP fdP) :
    FnOk P w K mg base CX0 4 f fd ["draw", "size", "names_here", "piece"] (spLOdd K) := by
  refine F.ok scLOdd (fun vs H Q E h => ?_) (fun cdv A outer s H vs Q E hr h => ?_)
  · obtain ⟨d, l, c, a, v, n, nm, l', dp, rfl, _⟩ := h
    rfl
  · obtain ⟨d, l, c, a, v, n, nm, l', dp, rfl, I0, few, hv, td, form, sc, k⟩ := h
    have nd := scLOdd.nd
    have hu := hu_of hr
    obtain ⟨ds, rfl⟩ : ∃ ds, dp = .tuple ds := by
      cases dp with
      | tuple ds => exact ⟨ds, rfl⟩
      | _ => cases form
    obtain ⟨x, r, rfl⟩ : ∃ x r, ds = .str x :: r := by
      match ds, form with
      | .str x :: r, _ => exact ⟨x, r, rfl⟩
    obtain ⟨⟩ | ⟨⟩ | ⟨⟩ | ⟨⟩ | ⟨⟩ | @⟨t, xs, _, ht, hs⟩ := hv
    obtain ⟨xr, rfl⟩ : ∃ xr, xs = .str x :: xr := by
      cases hs with
      | cons a b => cases a; exact ⟨_, rfl⟩
    have hot : l'.lookup ("other" : Str) = none := by
      rcases sc "other" with z | ⟨z, _⟩
      · rw [z]
        cases e : nm.lookup ("other" : Str) with
        | none => rfl
        | some v => exact absurd rfl (I0.G.ok _ (PySem.mem_of_lookup e)).1.1.2
      · exact absurd rfl z
    have fewr : r.length ≤ 3 := by
      by_cases e : x = "name"
      · subst e
        have f2 := form
        simp only [formD, if_true] at f2
        match r, f2 with
        | [.str y, .tuple as], _ => show 2 ≤ 3; decide
      · obtain ⟨ws, ef⟩ := form_word_ex form e
        rw [(form_at form e ef).1]
        exact forms_len (x, ws) (PySem.mem_of_lookup ef)
    refine ⟨_, pss_cons (ps_set (i := 4) nd rfl (Or.inl rfl) (pe_lst (pa_cons pe_non (pa_cons pe_int (pa_cons (pe_tup pa_nil) (pa_cons pe_str (pa_cons (pe_tup (pa_cons pe_str pa_nil)) (pa_cons (pe_callTy call_list_of (by rfl) mLi (by decide +kernel) (pa_cons (pv 3) pa_nil)) (pa_cons (pe_op op_catA (pv 3) (pe_tup (pa_cons pe_int pa_nil))) (pa_cons (PE.imp (u := tHead K d l c n l' (.str x :: r)) (pe_ifExp (pt_cmpR op_gt (pe_callB call_len_seq (by rfl) mL PySem.boot_len (pa_cons (pv 3) pa_nil)) pe_int (nomark _)) (pe_tup (pa_cons (pe_ix ix_tup (pv 3) pe_int (fun _ _ => rfl)) pa_nil)) (pe_tup (pa_cons pe_str (pa_cons pe_int pa_nil)))) ?iH) (pa_cons (pe_tup (pa_cons pe_str (pa_cons (pv 1) pa_nil))) (pa_cons (pe_tup (pa_cons pe_str (pa_cons (pe_un un_neg pe_int) pa_nil))) pa_nil))))))))))))
      (pss_cons (ps_set (i := 4) nd rfl (Or.inl rfl) (pe_op op_cat (pv 4) (pe_lst (pa_cons (pe_tup (pa_cons pe_str (pa_cons pe_bl pa_nil))) (pa_cons (pe_tup (pa_cons pe_str (pa_cons pe_non pa_nil))) (pa_cons (pe_tup (pa_cons pe_str (pa_cons pe_str pa_nil))) (pa_cons (pe_tup (pa_cons pe_str (pa_cons pe_non pa_nil))) (pa_cons (pe_tup (pa_cons pe_str (pa_cons pe_str (pa_cons (pe_tup pa_nil) pa_nil)))) (pa_cons (pe_tup (pa_cons pe_str (pa_cons pe_int (pa_cons (pe_tup pa_nil) pa_nil)))) (pa_cons (pe_tup (pa_cons pe_str (pa_cons pe_str pa_nil))) pa_nil))))))))))
      (pss_cons (ps_set (i := 4) nd rfl (Or.inl rfl) (pe_op op_cat (pv 4) (pe_lst (pa_cons (pe_tup (pa_cons pe_str (pa_cons pe_str (pa_cons pe_int (pa_cons (pe_tup (pa_cons pe_str pa_nil)) pa_nil))))) (pa_cons (pe_tup (pa_cons pe_str (pa_cons pe_str (pa_cons (pv 1) (pa_cons (pe_tup (pa_cons pe_str pa_nil)) pa_nil))))) (pa_cons (pe_tup (pa_cons pe_str (pa_cons pe_int (pa_cons pe_int (pa_cons (pe_tup (pa_cons pe_str pa_nil)) pa_nil))))) (pa_cons (pe_tup (pa_cons pe_str (pa_cons (pe_tup (pa_cons pe_str (pa_cons pe_int pa_nil))) (pa_cons pe_str (pa_cons (pe_tup (pa_cons pe_str pa_nil)) pa_nil))))) pa_nil)))))))
      (pss_cons (ps_for PassesOwn.never rfl (pi_list (pe_callB (call_sortedD rfl) (by rfl) mS (by decide +kernel) (pa_cons (pv 2) pa_nil))) (pg_name (i := 5) nd rfl (Or.inl rfl))
        (pss_one (ps_set (i := 4) nd rfl (Or.inl rfl) (pe_op op_cat (pv 4) (pe_lst (pa_cons (pe_tup (pa_cons pe_str (pa_cons (pv 5) (pa_cons (pe_lst pa_nil) pa_nil)))) (pa_cons (pe_tup (pa_cons pe_str (pa_cons (pv 5) (pa_cons (pe_op op_rep1 (pe_tup (pa_cons (pe_tup (pa_cons pe_str (pa_cons pe_int pa_nil))) pa_nil)) (pe_op op_add (pe_callB call_len_seq (by rfl) mL PySem.boot_len (pa_cons (pe_ix ix_tup (pe_dget hu (pv 2) (pv 5) (fun _ _ => rfl)) pe_int (fun _ _ => rfl)) pa_nil)) pe_int)) pa_nil)))) (pa_cons (pe_tup (pa_cons pe_str (pa_cons (pv 5) (pa_cons pe_non pa_nil)))) pa_nil))))))))
      (pss_one (ps_ret (pe_call GP.g hr rfl GP.m GP.kp GP.b .nil pass0 (pa_cons (pv 0) (pa_cons (pv 4) pa_nil)))))))), ?main⟩
    case iH =>
      rintro σ H1 Q1 ⟨t, xs, e3, ht1, hs1, D1, td1, form1, k1⟩
      have lx := dps_len hs1
      refine ⟨.ref t, e3, t, xs, rfl, .inr ht1, _, _, rfl, rfl, _, rfl, ?_⟩
      refine ite2 (fun z => ?_) (fun z => ?_)
      · obtain _ | ⟨h0, hs2⟩ := hs1
        obtain _ | ⟨h1, hs2⟩ := hs2
        · simp at z
        cases h0
        refine ⟨.ref t, e3, t, _, 0, _, rfl, rfl, ht1, atI_nat (j := 0) rfl, by show 1 ≤ sizeLine; decide, fun u nu => ?_⟩
        refine k1 _ _ (new_same nu) ⟨.tuple [.str x], .tup (SqT.of (cut_new D1 nu)) (.cons (.str _) .nil), ?_, no_head form1⟩
        cases td1 with
        | tup _ all => exact .tup (by show 1 ≤ 1000; decide) (od_cons (all (.str x) (by simp)).od od_nil)
      · refine ⟨by show 2 ≤ sizeLine; decide, fun u nu => ?_⟩
        exact k1 _ _ (new_same nu) ⟨.tuple [.str "skip", .int 1], .tup (SqT.of (cut_new D1 nu)) (.cons (.str _) (.cons (.int _) .nil)), od_tup (by show 2 ≤ 1000; decide) (od_cons (od_str (by decide +kernel)) (od_cons (od_leaf (fun ds e => by cases e) (fun x e => by cases e)) od_nil)), no_word (ws := []) (by decide +kernel) (by decide +kernel) (.inl (by decide))⟩
    case main =>
      have D0 := I0.D
      have ht0 := sqT_same cut_sub ht
      have B0 : AllBad K H d l n l' [] := .nil
      replace B0 := B0.snoc (x := .non) ⟨.none, .non, (od_leaf (fun ds e => by cases e) (fun x e => by cases e)), rfl⟩
      replace B0 := B0.snoc (x := .int 5) ⟨.int 5, (.int _), (od_leaf (fun ds e => by cases e) (fun x e => by cases e)), rfl⟩
      refine ⟨by show 0 ≤ sizeLine; decide, fun a1 m1 => ?_⟩
      have s1 := new_same (o := .tup []) m1
      have d1 : Dp K (Cut (upd H a1 (.tup [])) d l) (.ref a1) (.tuple []) := .tup (SqT.of (cut_new D0 m1)) .nil
      have D1 := D0.same s1
      have z1 := s1
      replace ht0 := sqT_same s1 ht0
      replace hs := dps_same (cut_same s1) hs
      replace B0 := AllBad.same B0 s1
      have e1 : (upd H a1 (.tup [])) a1 = some (.tup []) := upd_same
      generalize upd H a1 (.tup []) = H1 at s1 d1 D1 z1 ht0 hs B0 e1 ⊢
      replace B0 := B0.snoc (x := .ref a1) ⟨.tuple [], d1, (od_tup (by show 0 ≤ 1000; decide) od_nil), rfl⟩
      replace B0 := B0.snoc (x := .str "skip") ⟨.str "skip", (.str _), (od_str (by decide +kernel)), rfl⟩
      refine ⟨by show 1 ≤ sizeLine; decide, fun a2 m2 => ?_⟩
      have s2 := new_same (o := .tup [.str "none"]) m2
      have d2 : Dp K (Cut (upd H1 a2 (.tup [.str "none"])) d l) (.ref a2) (.tuple [.str "none"]) := .tup (SqT.of (cut_new D1 m2)) (.cons (.str _) .nil)
      have D2 := D1.same s2
      have z2 := z1.trans s2
      replace ht0 := sqT_same s2 ht0
      replace hs := dps_same (cut_same s2) hs
      replace B0 := AllBad.same B0 s2
      have e2 : (upd H1 a2 (.tup [.str "none"])) a2 = some (.tup [.str "none"]) := upd_same
      generalize upd H1 a2 (.tup [.str "none"]) = H2 at s2 d2 D2 z2 ht0 hs B0 e2 ⊢
      replace B0 := B0.snoc (x := .ref a2) ⟨.tuple [.str "none"], d2, (od_tup (by show 1 ≤ 1000; decide) (od_cons (od_str (by decide +kernel)) od_nil)), (no_wordless (by decide +kernel) (by decide +kernel))⟩
      refine ⟨_, rfl, t, _, rfl, .inr ht0, fun a3 m3 => ?_⟩
      have s3 := new_same (o := .lst (.str x :: xr)) m3
      have c3 := SqL.of (K := K) (cut_new (o := .lst (.str x :: xr)) D2 m3)
      have D3 := D2.same s3
      have z3 := z2.trans s3
      replace ht0 := sqT_same s3 ht0
      replace hs := dps_same (cut_same s3) hs
      replace B0 := B0.same s3
      generalize upd H2 a3 (.lst (.str x :: xr)) = H3 at s3 c3 D3 z3 ht0 hs B0 ⊢
      replace B0 := B0.snoc (x := .ref a3) ⟨.list (.str x :: r), .lst c3 hs, od_leaf (fun ds e => by cases e) (fun x e => by cases e), rfl⟩
      refine ⟨_, rfl, by show 1 ≤ sizeLine; decide, fun a4 m4 => ?_⟩
      have s4 := new_same (o := .tup [.int 1]) m4
      have d4 : Dp K (Cut (upd H3 a4 (.tup [.int 1])) d l) (.ref a4) (.tuple [.int 1]) := .tup (SqT.of (cut_new D3 m4)) (.cons (.int _) .nil)
      have D4 := D3.same s4
      have z4 := z3.trans s4
      replace ht0 := sqT_same s4 ht0
      replace hs := dps_same (cut_same s4) hs
      replace B0 := AllBad.same B0 s4
      have e4 : (upd H3 a4 (.tup [.int 1])) a4 = some (.tup [.int 1]) := upd_same
      generalize upd H3 a4 (.tup [.int 1]) = H4 at s4 d4 D4 z4 ht0 hs B0 e4 ⊢
      refine ⟨t, a4, _, [.int 1], rfl, rfl, ht0, SqT.of e4, Nat.le_of_lt (small1000 (by have := dps_len hs; simp only [List.length_cons, List.length_nil] at this ⊢; omega)), fun e => by simp at e, fun _ e => by simp at e, fun _ _ a5 m5 => ?_⟩
      have s5 := new_same (o := .tup (.str x :: xr ++ [.int 1])) m5
      have c5 := SqT.of (K := K) (cut_new (o := .tup (.str x :: xr ++ [.int 1])) D4 m5)
      have D5 := D4.same s5
      have z5 := z4.trans s5
      replace ht0 := sqT_same s5 ht0
      replace hs := dps_same (cut_same s5) hs
      replace B0 := B0.same s5
      generalize upd H4 a5 (.tup (.str x :: xr ++ [.int 1])) = H5 at s5 c5 D5 z5 ht0 hs B0 ⊢
      replace B0 := B0.snoc (x := .ref a5) ⟨.tuple (.str x :: r ++ [.int 1]), .tup c5 (dps_app hs (.cons (.int 1) .nil)), od_more td (by simp only [List.length_cons]; omega), no_more form⟩
      refine ⟨t, _, rfl, ht0, hs, D5, td, form, fun x8 H6 s6 b8 => ?_⟩
      have D6 := D5.same s6
      have z6 := z5.trans s6
      replace ht0 := sqT_same s6 ht0
      replace hs := dps_same (cut_same s6) hs
      replace B0 := (B0.same s6).snoc b8
      refine ⟨_, rfl, by show 2 ≤ sizeLine; decide, fun a7 m7 => ?_⟩
      have s7 := new_same (o := .tup [.str "number", .int n]) m7
      have d7 : Dp K (Cut (upd H6 a7 (.tup [.str "number", .int n])) d l) (.ref a7) (.tuple [.str "number", .int n]) := .tup (SqT.of (cut_new D6 m7)) (.cons (.str _) (.cons (.int _) .nil))
      have D7 := D6.same s7
      have z7 := z6.trans s7
      replace ht0 := sqT_same s7 ht0
      replace hs := dps_same (cut_same s7) hs
      replace B0 := AllBad.same B0 s7
      have e7 : (upd H6 a7 (.tup [.str "number", .int n])) a7 = some (.tup [.str "number", .int n]) := upd_same
      generalize upd H6 a7 (.tup [.str "number", .int n]) = H7 at s7 d7 D7 z7 ht0 hs B0 e7 ⊢
      replace B0 := B0.snoc (x := .ref a7) ⟨.tuple [.str "number", .int n], d7, (od_tup (by show 2 ≤ 1000; decide) (od_cons (od_str (by decide +kernel)) (od_cons (od_leaf (fun ds e => by cases e) (fun x e => by cases e)) od_nil))), (no_word (ws := ["figure"]) (by decide +kernel) (by decide +kernel) (.inr ⟨0, "figure", .int n, rfl, rfl, fig_size n⟩))⟩
      refine ⟨_, rfl, by show 2 ≤ sizeLine; decide, fun a8 m8 => ?_⟩
      have s8 := new_same (o := .tup [.str "number", .int (-1)]) m8
      have d8 : Dp K (Cut (upd H7 a8 (.tup [.str "number", .int (-1)])) d l) (.ref a8) (.tuple [.str "number", .int (-1)]) := .tup (SqT.of (cut_new D7 m8)) (.cons (.str _) (.cons (.int _) .nil))
      have D8 := D7.same s8
      have z8 := z7.trans s8
      replace ht0 := sqT_same s8 ht0
      replace hs := dps_same (cut_same s8) hs
      replace B0 := AllBad.same B0 s8
      have e8 : (upd H7 a8 (.tup [.str "number", .int (-1)])) a8 = some (.tup [.str "number", .int (-1)]) := upd_same
      generalize upd H7 a8 (.tup [.str "number", .int (-1)]) = H8 at s8 d8 D8 z8 ht0 hs B0 e8 ⊢
      replace B0 := B0.snoc (x := .ref a8) ⟨.tuple [.str "number", .int (-1)], d8, (od_tup (by show 2 ≤ 1000; decide) (od_cons (od_str (by decide +kernel)) (od_cons (od_leaf (fun ds e => by cases e) (fun x e => by cases e)) od_nil))), (no_word (ws := ["figure"]) (by decide +kernel) (by decide +kernel) (.inr ⟨0, "figure", .int (-1), rfl, rfl, fig_neg n⟩))⟩
      refine ⟨by show 10 ≤ sizeLine; decide, fun a9 m9 => ?_⟩
      have s9 := new_same (o := .lst [.non, .int 5, .ref a1, .str "skip", .ref a2, .ref a3, .ref a5, x8, .ref a7, .ref a8]) m9
      have D9 := D8.same s9
      have z9 := z8.trans s9
      replace ht0 := sqT_same s9 ht0
      replace hs := dps_same (cut_same s9) hs
      replace B0 := AllBad.same B0 s9
      have e9 : (upd H8 a9 (.lst [.non, .int 5, .ref a1, .str "skip", .ref a2, .ref a3, .ref a5, x8, .ref a7, .ref a8])) a9 = some (.lst [.non, .int 5, .ref a1, .str "skip", .ref a2, .ref a3, .ref a5, x8, .ref a7, .ref a8]) := upd_same
      generalize upd H8 a9 (.lst [.non, .int 5, .ref a1, .str "skip", .ref a2, .ref a3, .ref a5, x8, .ref a7, .ref a8]) = H9 at s9 D9 z9 ht0 hs B0 e9 ⊢
      have C1 := B0
      replace B0 : AllBad K H9 d l n l' [] := .nil
      refine ⟨_, rfl, by show 2 ≤ sizeLine; decide, fun a10 m10 => ?_⟩
      have s10 := new_same (o := .tup [.str "number", .bl true]) m10
      have d10 : Dp K (Cut (upd H9 a10 (.tup [.str "number", .bl true])) d l) (.ref a10) (.tuple [.str "number", .bool true]) := .tup (SqT.of (cut_new D9 m10)) (.cons (.str _) (.cons (.bl _) .nil))
      have D10 := D9.same s10
      have z10 := z9.trans s10
      replace ht0 := sqT_same s10 ht0
      replace hs := dps_same (cut_same s10) hs
      replace B0 := AllBad.same B0 s10
      replace e9 := s10 _ _ e9
      replace C1 := AllBad.same C1 s10
      have e10 : (upd H9 a10 (.tup [.str "number", .bl true])) a10 = some (.tup [.str "number", .bl true]) := upd_same
      generalize upd H9 a10 (.tup [.str "number", .bl true]) = H10 at s10 d10 D10 z10 ht0 hs B0 e9 C1 e10 ⊢
      replace B0 := B0.snoc (x := .ref a10) ⟨.tuple [.str "number", .bool true], d10, (od_tup (by show 2 ≤ 1000; decide) (od_cons (od_str (by decide +kernel)) (od_cons (od_leaf (fun ds e => by cases e) (fun x e => by cases e)) od_nil))), (no_word (ws := ["figure"]) (by decide +kernel) (by decide +kernel) (.inr ⟨0, "figure", .bool true, rfl, rfl, rfl⟩))⟩
      refine ⟨by show 2 ≤ sizeLine; decide, fun a11 m11 => ?_⟩
      have s11 := new_same (o := .tup [.str "number", .non]) m11
      have d11 : Dp K (Cut (upd H10 a11 (.tup [.str "number", .non])) d l) (.ref a11) (.tuple [.str "number", .none]) := .tup (SqT.of (cut_new D10 m11)) (.cons (.str _) (.cons .non .nil))
      have D11 := D10.same s11
      have z11 := z10.trans s11
      replace ht0 := sqT_same s11 ht0
      replace hs := dps_same (cut_same s11) hs
      replace B0 := AllBad.same B0 s11
      replace e9 := s11 _ _ e9
      replace C1 := AllBad.same C1 s11
      have e11 : (upd H10 a11 (.tup [.str "number", .non])) a11 = some (.tup [.str "number", .non]) := upd_same
      generalize upd H10 a11 (.tup [.str "number", .non]) = H11 at s11 d11 D11 z11 ht0 hs B0 e9 C1 e11 ⊢
      replace B0 := B0.snoc (x := .ref a11) ⟨.tuple [.str "number", .none], d11, (od_tup (by show 2 ≤ 1000; decide) (od_cons (od_str (by decide +kernel)) (od_cons (od_leaf (fun ds e => by cases e) (fun x e => by cases e)) od_nil))), (no_word (ws := ["figure"]) (by decide +kernel) (by decide +kernel) (.inr ⟨0, "figure", .none, rfl, rfl, rfl⟩))⟩
      refine ⟨by show 2 ≤ sizeLine; decide, fun a12 m12 => ?_⟩
      have s12 := new_same (o := .tup [.str "never", .str "box"]) m12
      have d12 : Dp K (Cut (upd H11 a12 (.tup [.str "never", .str "box"])) d l) (.ref a12) (.tuple [.str "never", .str "box"]) := .tup (SqT.of (cut_new D11 m12)) (.cons (.str _) (.cons (.str _) .nil))
      have D12 := D11.same s12
      have z12 := z11.trans s12
      replace ht0 := sqT_same s12 ht0
      replace hs := dps_same (cut_same s12) hs
      replace B0 := AllBad.same B0 s12
      replace e9 := s12 _ _ e9
      replace C1 := AllBad.same C1 s12
      have e12 : (upd H11 a12 (.tup [.str "never", .str "box"])) a12 = some (.tup [.str "never", .str "box"]) := upd_same
      generalize upd H11 a12 (.tup [.str "never", .str "box"]) = H12 at s12 d12 D12 z12 ht0 hs B0 e9 C1 e12 ⊢
      replace B0 := B0.snoc (x := .ref a12) ⟨.tuple [.str "never", .str "box"], d12, (od_tup (by show 2 ≤ 1000; decide) (od_cons (od_str (by decide +kernel)) (od_cons (od_str (by decide +kernel)) od_nil))), (no_word (ws := ["ending"]) (by decide +kernel) (by decide +kernel) (.inr ⟨0, "ending", .str "box", rfl, rfl, by rw [thing_end]; decide +kernel⟩))⟩
      refine ⟨by show 2 ≤ sizeLine; decide, fun a13 m13 => ?_⟩
      have s13 := new_same (o := .tup [.str "never", .non]) m13
      have d13 : Dp K (Cut (upd H12 a13 (.tup [.str "never", .non])) d l) (.ref a13) (.tuple [.str "never", .none]) := .tup (SqT.of (cut_new D12 m13)) (.cons (.str _) (.cons .non .nil))
      have D13 := D12.same s13
      have z13 := z12.trans s13
      replace ht0 := sqT_same s13 ht0
      replace hs := dps_same (cut_same s13) hs
      replace B0 := AllBad.same B0 s13
      replace e9 := s13 _ _ e9
      replace C1 := AllBad.same C1 s13
      have e13 : (upd H12 a13 (.tup [.str "never", .non])) a13 = some (.tup [.str "never", .non]) := upd_same
      generalize upd H12 a13 (.tup [.str "never", .non]) = H13 at s13 d13 D13 z13 ht0 hs B0 e9 C1 e13 ⊢
      replace B0 := B0.snoc (x := .ref a13) ⟨.tuple [.str "never", .none], d13, (od_tup (by show 2 ≤ 1000; decide) (od_cons (od_str (by decide +kernel)) (od_cons (od_leaf (fun ds e => by cases e) (fun x e => by cases e)) od_nil))), (no_word (ws := ["ending"]) (by decide +kernel) (by decide +kernel) (.inr ⟨0, "ending", .none, rfl, rfl, by rw [thing_end]; rfl⟩))⟩
      refine ⟨by show 0 ≤ sizeLine; decide, fun a14 m14 => ?_⟩
      have s14 := new_same (o := .tup []) m14
      have d14 : Dp K (Cut (upd H13 a14 (.tup [])) d l) (.ref a14) (.tuple []) := .tup (SqT.of (cut_new D13 m14)) .nil
      have D14 := D13.same s14
      have z14 := z13.trans s14
      replace ht0 := sqT_same s14 ht0
      replace hs := dps_same (cut_same s14) hs
      replace B0 := AllBad.same B0 s14
      replace e9 := s14 _ _ e9
      replace C1 := AllBad.same C1 s14
      have e14 : (upd H13 a14 (.tup [])) a14 = some (.tup []) := upd_same
      generalize upd H13 a14 (.tup []) = H14 at s14 d14 D14 z14 ht0 hs B0 e9 C1 e14 ⊢
      refine ⟨by show 3 ≤ sizeLine; decide, fun a15 m15 => ?_⟩
      have s15 := new_same (o := .tup [.str "name", .str "other", .ref a14]) m15
      have d15 : Dp K (Cut (upd H14 a15 (.tup [.str "name", .str "other", .ref a14])) d l) (.ref a15) (.tuple [.str "name", .str "other", .tuple []]) := .tup (SqT.of (cut_new D14 m15)) (.cons (.str _) (.cons (.str _) (.cons (dp_same (cut_same s15) d14) .nil)))
      have D15 := D14.same s15
      have z15 := z14.trans s15
      replace ht0 := sqT_same s15 ht0
      replace hs := dps_same (cut_same s15) hs
      replace B0 := AllBad.same B0 s15
      replace e9 := s15 _ _ e9
      replace C1 := AllBad.same C1 s15
      replace d14 := dp_same (cut_same s15) d14
      have e15 : (upd H14 a15 (.tup [.str "name", .str "other", .ref a14])) a15 = some (.tup [.str "name", .str "other", .ref a14]) := upd_same
      generalize upd H14 a15 (.tup [.str "name", .str "other", .ref a14]) = H15 at s15 d15 D15 z15 ht0 hs B0 e9 C1 d14 e15 ⊢
      replace B0 := B0.snoc (x := .ref a15) ⟨.tuple [.str "name", .str "other", .tuple []], d15, (od_tup (by show 3 ≤ 1000; decide) (od_cons (od_str (by decide +kernel)) (od_cons (od_str (by decide +kernel)) (od_cons (od_tup (by show 0 ≤ 1000; decide) od_nil) od_nil)))), (no_name (no_other hot))⟩
      refine ⟨by show 0 ≤ sizeLine; decide, fun a16 m16 => ?_⟩
      have s16 := new_same (o := .tup []) m16
      have d16 : Dp K (Cut (upd H15 a16 (.tup [])) d l) (.ref a16) (.tuple []) := .tup (SqT.of (cut_new D15 m16)) .nil
      have D16 := D15.same s16
      have z16 := z15.trans s16
      replace ht0 := sqT_same s16 ht0
      replace hs := dps_same (cut_same s16) hs
      replace B0 := AllBad.same B0 s16
      replace e9 := s16 _ _ e9
      replace C1 := AllBad.same C1 s16
      have e16 : (upd H15 a16 (.tup [])) a16 = some (.tup []) := upd_same
      generalize upd H15 a16 (.tup []) = H16 at s16 d16 D16 z16 ht0 hs B0 e9 C1 e16 ⊢
      refine ⟨by show 3 ≤ sizeLine; decide, fun a17 m17 => ?_⟩
      have s17 := new_same (o := .tup [.str "name", .int 5, .ref a16]) m17
      have d17 : Dp K (Cut (upd H16 a17 (.tup [.str "name", .int 5, .ref a16])) d l) (.ref a17) (.tuple [.str "name", .int 5, .tuple []]) := .tup (SqT.of (cut_new D16 m17)) (.cons (.str _) (.cons (.int _) (.cons (dp_same (cut_same s17) d16) .nil)))
      have D17 := D16.same s17
      have z17 := z16.trans s17
      replace ht0 := sqT_same s17 ht0
      replace hs := dps_same (cut_same s17) hs
      replace B0 := AllBad.same B0 s17
      replace e9 := s17 _ _ e9
      replace C1 := AllBad.same C1 s17
      replace d16 := dp_same (cut_same s17) d16
      have e17 : (upd H16 a17 (.tup [.str "name", .int 5, .ref a16])) a17 = some (.tup [.str "name", .int 5, .ref a16]) := upd_same
      generalize upd H16 a17 (.tup [.str "name", .int 5, .ref a16]) = H17 at s17 d17 D17 z17 ht0 hs B0 e9 C1 d16 e17 ⊢
      replace B0 := B0.snoc (x := .ref a17) ⟨.tuple [.str "name", .int 5, .tuple []], d17, (od_tup (by show 3 ≤ 1000; decide) (od_cons (od_str (by decide +kernel)) (od_cons (od_leaf (fun ds e => by cases e) (fun x e => by cases e)) (od_cons (od_tup (by show 0 ≤ 1000; decide) od_nil) od_nil)))), (no_name rfl)⟩
      refine ⟨by show 2 ≤ sizeLine; decide, fun a18 m18 => ?_⟩
      have s18 := new_same (o := .tup [.str "name", .str "other"]) m18
      have d18 : Dp K (Cut (upd H17 a18 (.tup [.str "name", .str "other"])) d l) (.ref a18) (.tuple [.str "name", .str "other"]) := .tup (SqT.of (cut_new D17 m18)) (.cons (.str _) (.cons (.str _) .nil))
      have D18 := D17.same s18
      have z18 := z17.trans s18
      replace ht0 := sqT_same s18 ht0
      replace hs := dps_same (cut_same s18) hs
      replace B0 := AllBad.same B0 s18
      replace e9 := s18 _ _ e9
      replace C1 := AllBad.same C1 s18
      have e18 : (upd H17 a18 (.tup [.str "name", .str "other"])) a18 = some (.tup [.str "name", .str "other"]) := upd_same
      generalize upd H17 a18 (.tup [.str "name", .str "other"]) = H18 at s18 d18 D18 z18 ht0 hs B0 e9 C1 e18 ⊢
      replace B0 := B0.snoc (x := .ref a18) ⟨.tuple [.str "name", .str "other"], d18, (od_tup (by show 2 ≤ 1000; decide) (od_cons (od_str (by decide +kernel)) (od_cons (od_str (by decide +kernel)) od_nil))), (no_name rfl)⟩
      refine ⟨by show 7 ≤ sizeLine; decide, fun a19 m19 => ?_⟩
      have s19 := new_same (o := .lst [.ref a10, .ref a11, .ref a12, .ref a13, .ref a15, .ref a17, .ref a18]) m19
      have D19 := D18.same s19
      have z19 := z18.trans s19
      replace ht0 := sqT_same s19 ht0
      replace hs := dps_same (cut_same s19) hs
      replace B0 := AllBad.same B0 s19
      replace e9 := s19 _ _ e9
      replace C1 := AllBad.same C1 s19
      have e19 : (upd H18 a19 (.lst [.ref a10, .ref a11, .ref a12, .ref a13, .ref a15, .ref a17, .ref a18])) a19 = some (.lst [.ref a10, .ref a11, .ref a12, .ref a13, .ref a15, .ref a17, .ref a18]) := upd_same
      generalize upd H18 a19 (.lst [.ref a10, .ref a11, .ref a12, .ref a13, .ref a15, .ref a17, .ref a18]) = H19 at s19 D19 z19 ht0 hs B0 e9 C1 e19 ⊢
      refine ⟨a9, a19, _, _, rfl, rfl, e9, e19, Nat.le_of_lt (small1000 (by simp)), fun a20 m20 => ?_⟩
      have s20 := new_same (o := .lst ([.non, .int 5, .ref a1, .str "skip", .ref a2, .ref a3, .ref a5, x8, .ref a7, .ref a8] ++ [.ref a10, .ref a11, .ref a12, .ref a13, .ref a15, .ref a17, .ref a18])) m20
      have D20 := D19.same s20
      have z20 := z19.trans s20
      have C2 := (C1.app B0).same s20
      have e20 : (upd H19 a20 (.lst ([.non, .int 5, .ref a1, .str "skip", .ref a2, .ref a3, .ref a5, x8, .ref a7, .ref a8] ++ [.ref a10, .ref a11, .ref a12, .ref a13, .ref a15, .ref a17, .ref a18]))) a20 = some (.lst ([.non, .int 5, .ref a1, .str "skip", .ref a2, .ref a3, .ref a5, x8, .ref a7, .ref a8] ++ [.ref a10, .ref a11, .ref a12, .ref a13, .ref a15, .ref a17, .ref a18])) := upd_same
      generalize hv2 : ([.non, .int 5, .ref a1, .str "skip", .ref a2, .ref a3, .ref a5, x8, .ref a7, .ref a8] ++ [.ref a10, .ref a11, .ref a12, .ref a13, .ref a15, .ref a17, .ref a18] : List V) = vs2 at s20 e20 D20 z20 ⊢
      replace C2 : AllBad K (upd H19 a20 (.lst vs2)) d l n l' vs2 := by rw [← hv2]; exact C2
      have l2 : vs2.length = 17 := by rw [← hv2]; rfl
      clear hv2
      generalize upd H19 a20 (.lst vs2) = H20 at s20 D20 z20 C2 e20 ⊢
      replace B0 : AllBad K H20 d l n l' [] := .nil
      refine ⟨_, rfl, by show 1 ≤ sizeLine; decide, fun a21 m21 => ?_⟩
      have s21 := new_same (o := .tup [.str "skip"]) m21
      have d21 : Dp K (Cut (upd H20 a21 (.tup [.str "skip"])) d l) (.ref a21) (.tuple [.str "skip"]) := .tup (SqT.of (cut_new D20 m21)) (.cons (.str _) .nil)
      have D21 := D20.same s21
      have z21 := z20.trans s21
      replace e20 := s21 _ _ e20
      replace C2 := AllBad.same C2 s21
      replace B0 := AllBad.same B0 s21
      have e21 : (upd H20 a21 (.tup [.str "skip"])) a21 = some (.tup [.str "skip"]) := upd_same
      generalize upd H20 a21 (.tup [.str "skip"]) = H21 at s21 d21 D21 z21 e20 C2 B0 e21 ⊢
      refine ⟨by show 4 ≤ sizeLine; decide, fun a22 m22 => ?_⟩
      have s22 := new_same (o := .tup [.str "new", .str "A", .int 0, .ref a21]) m22
      have d22 : Dp K (Cut (upd H21 a22 (.tup [.str "new", .str "A", .int 0, .ref a21])) d l) (.ref a22) (.tuple [.str "new", .str "A", .int 0, .tuple [.str "skip"]]) := .tup (SqT.of (cut_new D21 m22)) (.cons (.str _) (.cons (.str _) (.cons (.int _) (.cons (dp_same (cut_same s22) d21) .nil))))
      have D22 := D21.same s22
      have z22 := z21.trans s22
      replace e20 := s22 _ _ e20
      replace C2 := AllBad.same C2 s22
      replace B0 := AllBad.same B0 s22
      replace d21 := dp_same (cut_same s22) d21
      have e22 : (upd H21 a22 (.tup [.str "new", .str "A", .int 0, .ref a21])) a22 = some (.tup [.str "new", .str "A", .int 0, .ref a21]) := upd_same
      generalize upd H21 a22 (.tup [.str "new", .str "A", .int 0, .ref a21]) = H22 at s22 d22 D22 z22 e20 C2 B0 d21 e22 ⊢
      replace B0 := B0.snoc (x := .ref a22) ⟨.tuple [.str "new", .str "A", .int 0, .tuple [.str "skip"]], d22, (od_tup (by show 4 ≤ 1000; decide) (od_cons (od_str (by decide +kernel)) (od_cons (od_str (by decide +kernel)) (od_cons (od_leaf (fun ds e => by cases e) (fun x e => by cases e)) (od_cons (od_tup (by show 1 ≤ 1000; decide) (od_cons (od_str (by decide +kernel)) od_nil)) od_nil))))), (no_word (ws := ["word", "figure", "some"]) (by decide +kernel) (by decide +kernel) (.inr ⟨0, "word", .str "A", rfl, rfl, by rw [thing_word]; decide +kernel⟩))⟩
      refine ⟨_, rfl, by show 1 ≤ sizeLine; decide, fun a23 m23 => ?_⟩
      have s23 := new_same (o := .tup [.str "skip"]) m23
      have d23 : Dp K (Cut (upd H22 a23 (.tup [.str "skip"])) d l) (.ref a23) (.tuple [.str "skip"]) := .tup (SqT.of (cut_new D22 m23)) (.cons (.str _) .nil)
      have D23 := D22.same s23
      have z23 := z22.trans s23
      replace e20 := s23 _ _ e20
      replace C2 := AllBad.same C2 s23
      replace B0 := AllBad.same B0 s23
      have e23 : (upd H22 a23 (.tup [.str "skip"])) a23 = some (.tup [.str "skip"]) := upd_same
      generalize upd H22 a23 (.tup [.str "skip"]) = H23 at s23 d23 D23 z23 e20 C2 B0 e23 ⊢
      refine ⟨by show 4 ≤ sizeLine; decide, fun a24 m24 => ?_⟩
      have s24 := new_same (o := .tup [.str "new", .str "c", .int n, .ref a23]) m24
      have d24 : Dp K (Cut (upd H23 a24 (.tup [.str "new", .str "c", .int n, .ref a23])) d l) (.ref a24) (.tuple [.str "new", .str "c", .int n, .tuple [.str "skip"]]) := .tup (SqT.of (cut_new D23 m24)) (.cons (.str _) (.cons (.str _) (.cons (.int _) (.cons (dp_same (cut_same s24) d23) .nil))))
      have D24 := D23.same s24
      have z24 := z23.trans s24
      replace e20 := s24 _ _ e20
      replace C2 := AllBad.same C2 s24
      replace B0 := AllBad.same B0 s24
      replace d23 := dp_same (cut_same s24) d23
      have e24 : (upd H23 a24 (.tup [.str "new", .str "c", .int n, .ref a23])) a24 = some (.tup [.str "new", .str "c", .int n, .ref a23]) := upd_same
      generalize upd H23 a24 (.tup [.str "new", .str "c", .int n, .ref a23]) = H24 at s24 d24 D24 z24 e20 C2 B0 d23 e24 ⊢
      replace B0 := B0.snoc (x := .ref a24) ⟨.tuple [.str "new", .str "c", .int n, .tuple [.str "skip"]], d24, (od_tup (by show 4 ≤ 1000; decide) (od_cons (od_str (by decide +kernel)) (od_cons (od_str (by decide +kernel)) (od_cons (od_leaf (fun ds e => by cases e) (fun x e => by cases e)) (od_cons (od_tup (by show 1 ≤ 1000; decide) (od_cons (od_str (by decide +kernel)) od_nil)) od_nil))))), (no_word (ws := ["word", "figure", "some"]) (by decide +kernel) (by decide +kernel) (.inr ⟨1, "figure", .int n, rfl, rfl, fig_size n⟩))⟩
      refine ⟨by show 1 ≤ sizeLine; decide, fun a25 m25 => ?_⟩
      have s25 := new_same (o := .tup [.str "skip"]) m25
      have d25 : Dp K (Cut (upd H24 a25 (.tup [.str "skip"])) d l) (.ref a25) (.tuple [.str "skip"]) := .tup (SqT.of (cut_new D24 m25)) (.cons (.str _) .nil)
      have D25 := D24.same s25
      have z25 := z24.trans s25
      replace e20 := s25 _ _ e20
      replace C2 := AllBad.same C2 s25
      replace B0 := AllBad.same B0 s25
      have e25 : (upd H24 a25 (.tup [.str "skip"])) a25 = some (.tup [.str "skip"]) := upd_same
      generalize upd H24 a25 (.tup [.str "skip"]) = H25 at s25 d25 D25 z25 e20 C2 B0 e25 ⊢
      refine ⟨by show 4 ≤ sizeLine; decide, fun a26 m26 => ?_⟩
      have s26 := new_same (o := .tup [.str "new", .int 5, .int 0, .ref a25]) m26
      have d26 : Dp K (Cut (upd H25 a26 (.tup [.str "new", .int 5, .int 0, .ref a25])) d l) (.ref a26) (.tuple [.str "new", .int 5, .int 0, .tuple [.str "skip"]]) := .tup (SqT.of (cut_new D25 m26)) (.cons (.str _) (.cons (.int _) (.cons (.int _) (.cons (dp_same (cut_same s26) d25) .nil))))
      have D26 := D25.same s26
      have z26 := z25.trans s26
      replace e20 := s26 _ _ e20
      replace C2 := AllBad.same C2 s26
      replace B0 := AllBad.same B0 s26
      replace d25 := dp_same (cut_same s26) d25
      have e26 : (upd H25 a26 (.tup [.str "new", .int 5, .int 0, .ref a25])) a26 = some (.tup [.str "new", .int 5, .int 0, .ref a25]) := upd_same
      generalize upd H25 a26 (.tup [.str "new", .int 5, .int 0, .ref a25]) = H26 at s26 d26 D26 z26 e20 C2 B0 d25 e26 ⊢
      replace B0 := B0.snoc (x := .ref a26) ⟨.tuple [.str "new", .int 5, .int 0, .tuple [.str "skip"]], d26, (od_tup (by show 4 ≤ 1000; decide) (od_cons (od_str (by decide +kernel)) (od_cons (od_leaf (fun ds e => by cases e) (fun x e => by cases e)) (od_cons (od_leaf (fun ds e => by cases e) (fun x e => by cases e)) (od_cons (od_tup (by show 1 ≤ 1000; decide) (od_cons (od_str (by decide +kernel)) od_nil)) od_nil))))), (no_word (ws := ["word", "figure", "some"]) (by decide +kernel) (by decide +kernel) (.inr ⟨0, "word", .int 5, rfl, rfl, by rw [thing_word]; rfl⟩))⟩
      refine ⟨by show 2 ≤ sizeLine; decide, fun a27 m27 => ?_⟩
      have s27 := new_same (o := .tup [.str "number", .int 0]) m27
      have d27 : Dp K (Cut (upd H26 a27 (.tup [.str "number", .int 0])) d l) (.ref a27) (.tuple [.str "number", .int 0]) := .tup (SqT.of (cut_new D26 m27)) (.cons (.str _) (.cons (.int _) .nil))
      have D27 := D26.same s27
      have z27 := z26.trans s27
      replace e20 := s27 _ _ e20
      replace C2 := AllBad.same C2 s27
      replace B0 := AllBad.same B0 s27
      have e27 : (upd H26 a27 (.tup [.str "number", .int 0])) a27 = some (.tup [.str "number", .int 0]) := upd_same
      generalize upd H26 a27 (.tup [.str "number", .int 0]) = H27 at s27 d27 D27 z27 e20 C2 B0 e27 ⊢
      refine ⟨by show 1 ≤ sizeLine; decide, fun a28 m28 => ?_⟩
      have s28 := new_same (o := .tup [.str "skip"]) m28
      have d28 : Dp K (Cut (upd H27 a28 (.tup [.str "skip"])) d l) (.ref a28) (.tuple [.str "skip"]) := .tup (SqT.of (cut_new D27 m28)) (.cons (.str _) .nil)
      have D28 := D27.same s28
      have z28 := z27.trans s28
      replace e20 := s28 _ _ e20
      replace C2 := AllBad.same C2 s28
      replace B0 := AllBad.same B0 s28
      replace d27 := dp_same (cut_same s28) d27
      have e28 : (upd H27 a28 (.tup [.str "skip"])) a28 = some (.tup [.str "skip"]) := upd_same
      generalize upd H27 a28 (.tup [.str "skip"]) = H28 at s28 d28 D28 z28 e20 C2 B0 d27 e28 ⊢
      refine ⟨by show 4 ≤ sizeLine; decide, fun a29 m29 => ?_⟩
      have s29 := new_same (o := .tup [.str "made", .ref a27, .str "A", .ref a28]) m29
      have d29 : Dp K (Cut (upd H28 a29 (.tup [.str "made", .ref a27, .str "A", .ref a28])) d l) (.ref a29) (.tuple [.str "made", .tuple [.str "number", .int 0], .str "A", .tuple [.str "skip"]]) := .tup (SqT.of (cut_new D28 m29)) (.cons (.str _) (.cons (dp_same (cut_same s29) d27) (.cons (.str _) (.cons (dp_same (cut_same s29) d28) .nil))))
      have D29 := D28.same s29
      have z29 := z28.trans s29
      replace e20 := s29 _ _ e20
      replace C2 := AllBad.same C2 s29
      replace B0 := AllBad.same B0 s29
      replace d27 := dp_same (cut_same s29) d27
      replace d28 := dp_same (cut_same s29) d28
      have e29 : (upd H28 a29 (.tup [.str "made", .ref a27, .str "A", .ref a28])) a29 = some (.tup [.str "made", .ref a27, .str "A", .ref a28]) := upd_same
      generalize upd H28 a29 (.tup [.str "made", .ref a27, .str "A", .ref a28]) = H29 at s29 d29 D29 z29 e20 C2 B0 d27 d28 e29 ⊢
      replace B0 := B0.snoc (x := .ref a29) ⟨.tuple [.str "made", .tuple [.str "number", .int 0], .str "A", .tuple [.str "skip"]], d29, (od_tup (by show 4 ≤ 1000; decide) (od_cons (od_str (by decide +kernel)) (od_cons (od_tup (by show 2 ≤ 1000; decide) (od_cons (od_str (by decide +kernel)) (od_cons (od_leaf (fun ds e => by cases e) (fun x e => by cases e)) od_nil))) (od_cons (od_str (by decide +kernel)) (od_cons (od_tup (by show 1 ≤ 1000; decide) (od_cons (od_str (by decide +kernel)) od_nil)) od_nil))))), (no_word (ws := ["num", "word", "do"]) (by decide +kernel) (by decide +kernel) (.inr ⟨1, "word", .str "A", rfl, rfl, by rw [thing_word]; decide +kernel⟩))⟩
      refine ⟨by show 4 ≤ sizeLine; decide, fun a30 m30 => ?_⟩
      have s30 := new_same (o := .lst [.ref a22, .ref a24, .ref a26, .ref a29]) m30
      have D30 := D29.same s30
      have z30 := z29.trans s30
      replace e20 := s30 _ _ e20
      replace C2 := AllBad.same C2 s30
      replace B0 := AllBad.same B0 s30
      have e30 : (upd H29 a30 (.lst [.ref a22, .ref a24, .ref a26, .ref a29])) a30 = some (.lst [.ref a22, .ref a24, .ref a26, .ref a29]) := upd_same
      generalize upd H29 a30 (.lst [.ref a22, .ref a24, .ref a26, .ref a29]) = H30 at s30 D30 z30 e20 C2 B0 e30 ⊢
      refine ⟨a20, a30, _, _, rfl, rfl, e20, e30, Nat.le_of_lt (small1000 (by simp; omega)), fun a31 m31 => ?_⟩
      have s31 := new_same (o := .lst (vs2 ++ [.ref a22, .ref a24, .ref a26, .ref a29])) m31
      have D31 := D30.same s31
      have z31 := z30.trans s31
      have C3 := (C2.app B0).same (H' := upd H30 a31 (.lst (vs2 ++ [.ref a22, .ref a24, .ref a26, .ref a29]))) s31
      have e31 : (upd H30 a31 (.lst (vs2 ++ [.ref a22, .ref a24, .ref a26, .ref a29]))) a31 = some (.lst (vs2 ++ [.ref a22, .ref a24, .ref a26, .ref a29])) := upd_same
      have q31 := new_dl D30 m31
      generalize hv3 : (vs2 ++ [.ref a22, .ref a24, .ref a26, .ref a29] : List V) = vs3 at s31 e31 D31 z31 ⊢
      replace C3 : AllBad K (upd H30 a31 (.lst vs3)) d l n l' vs3 := by rw [← hv3]; exact C3
      have l3 : vs3.length = 21 := by rw [← hv3, List.length_append, l2]; rfl
      clear hv3
      generalize upd H30 a31 (.lst vs3) = HL at s31 D31 z31 C3 e31 ⊢
      have z0 : Same H HL := z31
      have e0 : HL a31 = some (.lst vs3) := e31
      have I1 := I0.same z0
      obtain ⟨kvs, ekv, hk, hkv⟩ := id I1.N
      -- for word in sorted(names_here)
      refine ⟨_, rfl, a, kvs, nm.map Prod.fst, rfl, .inl ekv, by rw [hk, List.map_map]; rfl, by rw [List.length_map]; omega, fun ws S perm _ nS => ?_⟩
      have sS := new_same (o := .lst (ws.map V.str)) nS
      have eS : (upd HL S (.lst (ws.map V.str))) S = some (.lst (ws.map V.str)) := upd_same
      generalize upd HL S (.lst (ws.map V.str)) = HS at sS eS ⊢
      have zS := z0.trans sS
      have lw : ws.length = nm.length := by rw [perm.length_eq, List.length_map]
      refine ⟨S, rfl, ⟨_, SqL.of eS⟩, for_list (K := K) (a := S) (xs := ws.map V.str) (fun i σ H' => ∃ (L : Addr) (ts : List V) (w5 : Option V), σ = [some (.ref d), some (.int n), some (.ref a), some (.ref t), some (.ref L), w5] ∧ Same HS H' ∧ H' L = some (.lst ts) ∧ L ≠ d ∧ L ≠ l ∧ ts.length = 21 + 3 * i ∧ AllBad K H' d l n l' ts)
        ⟨_, vs3, none, rfl, Same.refl _, sS _ _ e0, q31.1, q31.2.1, by rw [l3], C3.same sS⟩ (fun i σ H' _ ⟨_, _, _, _, s, _⟩ => SqL.of (s _ _ eS)) ?_ ?_⟩
      · rintro i y σ H6 hy ⟨L, ts, w5, rfl, s6, eL, _, _, lt, bt⟩
        rw [List.getElem?_map] at hy
        cases ew : ws[i]? with
        | none => rw [ew] at hy; cases hy
        | some y0 =>
        rw [ew] at hy
        obtain rfl := Option.some.inj hy
        have hi := (List.getElem?_eq_some_iff.mp ew).1
        obtain ⟨q, hq, rfl⟩ := List.mem_map.mp (perm.mem_iff.mp (List.mem_of_getElem? ew))
        have I6 := I0.same (zS.trans s6)
        have odw : OD (.str q.1) := .leaf (fun ds e => by cases e) fun y e => by
          cases e
          exact word_len (I0.G.ok q hq).1.1.1
        have lq : nm.lookup q.1 = some q.2 := look_nodup I0.G.nd hq
        have D6 := I6.D
        have B0 : AllBad K H6 d l n l' [] := .nil
        refine ⟨_, rfl, _, rfl, by show 0 ≤ sizeLine; decide, fun a32 m32 => ?_⟩
        have s32 := new_same (o := .lst []) m32
        have d32 : Dp K (Cut (upd H6 a32 (.lst [])) d l) (.ref a32) (.list []) := .lst (SqL.of (cut_new D6 m32)) .nil
        have D32 := D6.same s32
        have z32 := s32
        replace eL := s32 _ _ eL
        replace bt := AllBad.same bt s32
        replace B0 := AllBad.same B0 s32
        have e32 : (upd H6 a32 (.lst [])) a32 = some (.lst []) := upd_same
        generalize upd H6 a32 (.lst []) = H32 at s32 d32 D32 z32 eL bt B0 e32 ⊢
        refine ⟨by show 3 ≤ sizeLine; decide, fun a33 m33 => ?_⟩
        have s33 := new_same (o := .tup [.str "name", .str q.1, .ref a32]) m33
        have d33 : Dp K (Cut (upd H32 a33 (.tup [.str "name", .str q.1, .ref a32])) d l) (.ref a33) (.tuple [.str "name", .str q.1, .list []]) := .tup (SqT.of (cut_new D32 m33)) (.cons (.str _) (.cons (.str _) (.cons (dp_same (cut_same s33) d32) .nil)))
        have D33 := D32.same s33
        have z33 := z32.trans s33
        replace eL := s33 _ _ eL
        replace bt := AllBad.same bt s33
        replace B0 := AllBad.same B0 s33
        replace d32 := dp_same (cut_same s33) d32
        have e33 : (upd H32 a33 (.tup [.str "name", .str q.1, .ref a32])) a33 = some (.tup [.str "name", .str q.1, .ref a32]) := upd_same
        generalize upd H32 a33 (.tup [.str "name", .str q.1, .ref a32]) = H33 at s33 d33 D33 z33 eL bt B0 d32 e33 ⊢
        replace B0 := B0.snoc (x := .ref a33) ⟨.tuple [.str "name", .str q.1, .list []], d33, (od_tup (by show 3 ≤ 1000; decide) (od_cons (od_str (by decide +kernel)) (od_cons odw (od_cons (od_leaf (fun ds e => by cases e) (fun x e => by cases e)) od_nil)))), (no_name rfl)⟩
        refine ⟨_, rfl, ?_⟩
        refine ⟨by show 2 ≤ sizeLine; decide, fun a34 m34 => ?_⟩
        have s34 := new_same (o := .tup [.str "number", .int 0]) m34
        have d34 : Dp K (Cut (upd H33 a34 (.tup [.str "number", .int 0])) d l) (.ref a34) (.tuple [.str "number", .int 0]) := .tup (SqT.of (cut_new D33 m34)) (.cons (.str _) (.cons (.int _) .nil))
        have D34 := D33.same s34
        have z34 := z33.trans s34
        replace eL := s34 _ _ eL
        replace bt := AllBad.same bt s34
        replace B0 := AllBad.same B0 s34
        have e34 : (upd H33 a34 (.tup [.str "number", .int 0])) a34 = some (.tup [.str "number", .int 0]) := upd_same
        generalize upd H33 a34 (.tup [.str "number", .int 0]) = H34 at s34 d34 D34 z34 eL bt B0 e34 ⊢
        refine ⟨by show 1 ≤ sizeLine; decide, fun a35 m35 => ?_⟩
        have s35 := new_same (o := .tup [.ref a34]) m35
        have d35 : Dp K (Cut (upd H34 a35 (.tup [.ref a34])) d l) (.ref a35) (.tuple [.tuple [.str "number", .int 0]]) := .tup (SqT.of (cut_new D34 m35)) (.cons (dp_same (cut_same s35) d34) .nil)
        have D35 := D34.same s35
        have z35 := z34.trans s35
        replace eL := s35 _ _ eL
        replace bt := AllBad.same bt s35
        replace B0 := AllBad.same B0 s35
        replace d34 := dp_same (cut_same s35) d34
        have e35 : (upd H34 a35 (.tup [.ref a34])) a35 = some (.tup [.ref a34]) := upd_same
        generalize upd H34 a35 (.tup [.ref a34]) = H35 at s35 d35 D35 z35 eL bt B0 d34 e35 ⊢
        have I7 := I6.same z35
        obtain ⟨b2, b3, us, dg, hb2, hb3, lu, lu3⟩ := nm_entry I7 hq
        refine ⟨_, rfl, _, rfl, a, .ref b2, rfl, dg, b2, _, 0, _, rfl, rfl, hb2, atI_nat (j := 0) rfl, b3, us, rfl, .inr hb3, _, _, rfl, rfl, ?_⟩
        have itemD : Dp K (Cut H35 d l) (.ref a35) (.tuple [.tuple [.str "number", .int 0]]) := d35
        obtain ⟨⟩ | ⟨⟩ | ⟨⟩ | ⟨⟩ | ⟨⟩ | @⟨_, is, _, hti, hsi⟩ := id itemD
        obtain _ | @⟨v0, _, _, _, hv0, hsi⟩ := hsi
        cases hsi
        have rest : ∀ {Qx : VK}, (∀ A2 H9, Same H35 H9 → Dp K (Cut H9 d l) (.ref A2) (.tuple (List.replicate (us.length + 1) (.tuple [.str "number", .int 0]))) → Qx (.ref A2) H9) → rRep1 K (.ref a35) (.int ((us.length : Nat) + 1)) H35 Qx := fun {Qx} kx => by
          refine ⟨a35, _, [v0], rfl, rfl, sqT_same cut_sub hti, by simp, by omega, by omega, by show 1 ≤ 1000; decide, fun e => ?_, fun e p np => ?_⟩
          · have e0 : us.length = 0 := by omega
            refine kx _ _ (Same.refl _) ?_
            rw [e0]
            exact itemD
          · have et : ((us.length : Nat) + 1 : Int).toNat = us.length + 1 := by omega
            have ef : (List.replicate (us.length + 1) [v0]).flatten = List.replicate (us.length + 1) v0 := by simp
            rw [et, ef]
            have sp := new_same (o := .tup (List.replicate (us.length + 1) v0)) np
            exact kx p _ sp (.tup (SqT.of (cut_new D35 np)) (dps_rep (dp_same (cut_same sp) hv0) _))
        show rRep1 K (.ref a35) (.int (((us.length : Nat) : Int) + 1)) H35 _
        refine rest fun A2 H9 s9 hA => ?_
        have D9 := D35.same s9
        have z9 := z35.trans s9
        replace eL := s9 _ _ eL
        replace bt := bt.same s9
        replace B0 := B0.same s9
        refine ⟨by show 3 ≤ sizeLine; decide, fun a36 m36 => ?_⟩
        have s36 := new_same (o := .tup [.str "name", .str q.1, .ref A2]) m36
        have d36 : Dp K (Cut (upd H9 a36 (.tup [.str "name", .str q.1, .ref A2])) d l) (.ref a36) (.tuple [.str "name", .str q.1, .tuple (List.replicate (us.length + 1) (.tuple [.str "number", .int 0]))]) := .tup (SqT.of (cut_new D9 m36)) (.cons (.str _) (.cons (.str _) (.cons (dp_same (cut_same s36) hA) .nil)))
        have D36 := D9.same s36
        have z36 := z9.trans s36
        replace eL := s36 _ _ eL
        replace bt := AllBad.same bt s36
        replace B0 := AllBad.same B0 s36
        have e36 : (upd H9 a36 (.tup [.str "name", .str q.1, .ref A2])) a36 = some (.tup [.str "name", .str q.1, .ref A2]) := upd_same
        generalize upd H9 a36 (.tup [.str "name", .str q.1, .ref A2]) = H36 at s36 d36 D36 z36 eL bt B0 e36 ⊢
        have odr : OD (.tuple (List.replicate (us.length + 1) (.tuple [.str "number", .int 0]))) := .tup (by rw [List.length_replicate]; omega) fun y hy => by
          rw [(List.mem_replicate.mp hy).2]
          exact (od_tup (by show 2 ≤ 1000; decide) (od_cons (od_str (by decide +kernel)) (od_cons (od_leaf (fun ds e => by cases e) (fun x e => by cases e)) od_nil)))
        have nargs : ∀ ts g, l'.lookup q.1 = some (ts, g) → (List.replicate (us.length + 1) (PyData.tuple [.str "number", .int 0])).length ≠ ts.length := fun ts g e => by
          rw [List.length_replicate]
          rcases sc q.1 with z | ⟨_, g', z⟩
          · rw [z, lq] at e
            have e' := Option.some.inj e
            rw [lu, e']
            simp only
            omega
          · rw [z] at e
            cases e
            simp
        replace B0 := B0.snoc (x := .ref a36) ⟨.tuple [.str "name", .str q.1, .tuple (List.replicate (us.length + 1) (.tuple [.str "number", .int 0]))], d36, (od_tup (by show 3 ≤ 1000; decide) (od_cons (od_str (by decide +kernel)) (od_cons odw (od_cons odr od_nil)))), (no_name (no_args nargs))⟩
        refine ⟨_, rfl, by show 3 ≤ sizeLine; decide, fun a37 m37 => ?_⟩
        have s37 := new_same (o := .tup [.str "name", .str q.1, .non]) m37
        have d37 : Dp K (Cut (upd H36 a37 (.tup [.str "name", .str q.1, .non])) d l) (.ref a37) (.tuple [.str "name", .str q.1, .none]) := .tup (SqT.of (cut_new D36 m37)) (.cons (.str _) (.cons (.str _) (.cons .non .nil)))
        have D37 := D36.same s37
        have z37 := z36.trans s37
        replace eL := s37 _ _ eL
        replace bt := AllBad.same bt s37
        replace B0 := AllBad.same B0 s37
        have e37 : (upd H36 a37 (.tup [.str "name", .str q.1, .non])) a37 = some (.tup [.str "name", .str q.1, .non]) := upd_same
        generalize upd H36 a37 (.tup [.str "name", .str q.1, .non]) = H37 at s37 d37 D37 z37 eL bt B0 e37 ⊢
        replace B0 := B0.snoc (x := .ref a37) ⟨.tuple [.str "name", .str q.1, .none], d37, (od_tup (by show 3 ≤ 1000; decide) (od_cons (od_str (by decide +kernel)) (od_cons odw (od_cons (od_leaf (fun ds e => by cases e) (fun x e => by cases e)) od_nil)))), (no_name rfl)⟩
        refine ⟨by show 3 ≤ sizeLine; decide, fun a38 m38 => ?_⟩
        have s38 := new_same (o := .lst [.ref a33, .ref a36, .ref a37]) m38
        have D38 := D37.same s38
        have z38 := z37.trans s38
        replace eL := s38 _ _ eL
        replace bt := AllBad.same bt s38
        replace B0 := AllBad.same B0 s38
        have e38 : (upd H37 a38 (.lst [.ref a33, .ref a36, .ref a37])) a38 = some (.lst [.ref a33, .ref a36, .ref a37]) := upd_same
        generalize upd H37 a38 (.lst [.ref a33, .ref a36, .ref a37]) = H38 at s38 D38 z38 eL bt B0 e38 ⊢
        refine ⟨L, a38, _, _, rfl, rfl, eL, e38, Nat.le_of_lt (small1000 (by simp only [List.length_cons, List.length_nil]; omega)), fun a39 m39 => ?_⟩
        have s39 := new_same (o := .lst (ts ++ [.ref a33, .ref a36, .ref a37])) m39
        have q9 := new_dl D38 m39
        exact ⟨a39, _, _, rfl, s6.trans (z38.trans s39), upd_same, q9.1, q9.2.1, by simp only [List.length_append, List.length_cons, List.length_nil]; omega, (bt.app B0).same s39⟩
      · rintro σ H6 ⟨L, ts, w5, rfl, s6, eL, Ld, Ll, lt, bt⟩
        rw [List.length_map] at lt
        refine ⟨_, rfl, _, rfl, d, l, c, L, ts, rfl, eL, Ld, Ll, by omega, by omega, I0.D.same (zS.trans s6), fun i x H7 hx D7 B7 => ?_⟩
        obtain ⟨b, h1, h2, h3⟩ := (bt x (List.mem_of_getElem? hx)).but B7
        exact k x b H7 D7 ((But.of (zS.trans s6)).trans B7) h1 h2 h3
end
end Jd
/-! A law that holds a lambda and tells reprs of tuples: its end, where no repr is under way. -/
namespace L2
open PySem PySem.Spec PyProof.Rows
/-- one table of lambdas beside the script: the law's call at its entry -/
theorem entry_tab {P : Program} {w : World} {K : PySem.W.Frag} {mg mb : Str → Option Value} {k : Nat} {fa a cL pT : Addr} {fd : FuncData} {x : Str} {sp : Sp} {s₁ : Shared} {vs : List Value} {ns : List Int} (inK : K.In s₁.heap) (glob : s₁.heap.Ns mainGlobals mg)
    (blt : s₁.heap.Ns builtinsNs mb) (same : ∀ x : Str, x ≠ "__name__" → mb x = bootBuiltins x) (lim : s₁.heap.NoLimit) (noG : s₁.gens = #[]) (tabE : s₁.heap.get? pT = some { cls := .none, data := .fields #[] }) (outT : K.lookup pT = none) (head : PySem.W.CodeHd s₁.heap cL pT)
    (main : ∃ (bm : Addr) (ob : Obj), mg "__builtins__" = some (.ref bm) ∧ bm ≠ builtinsNs ∧ s₁.heap.get? bm = some ob ∧ ob.cls = .type "module" ∧ ob.dict = some builtinsNs ∧ ob.data = .plain)
    (at_ : s₁.heap.get? a = some { cls := .type "list", data := .seq vs.toArray }) (areInts : IntsAre vs ns) (few : ns.length ≤ sizeLine) (room : Room k callerA)
    (D : ∀ base : Heap, K.In base → base.Ns mainGlobals mg → LamX.TabB base mg cL pT → FnOkG P w K mg base k fa fd [x] sp) (bind : ∀ (s : Shared) (u : Value), BindsTo s fd ⟨[u], []⟩ [(x, u)])
    (want : ∀ H : Hp, H pT = some (.tbl #[]) → SqL K H a (ns.map V.int) → sp [.ref a] H (fun v _ => v = .bl true) fun _ _ _ => False) :
    codeAny (model P w) callerA (.call (.ref fa) ⟨[.ref a], []⟩) (fun r s' => r = .ok (.ret (.bool true)) ∧ OldK s₁.heap s'.heap ∧ s'.os = s₁.os ∧ AllBare s'.gens) s₁ := by
  have aPT : a ≠ pT := fun z => by
    rw [z, tabE] at at_
    cases at_
  -- what may be tracked: the table, and the script where K doesn't hold it
  have go : ∀ H : Hp, H pT = some (.tbl #[]) → (∀ b, b ≠ pT → H b = none ∨ (b = a ∧ ∃ o xs, H b = some (.frz o (.lst xs)))) → SqL K H a (ns.map V.int) → HOk P w H s₁.heap → (H a ≠ none → K.lookup a = none) →
      codeAny (model P w) callerA (.call (.ref fa) ⟨[.ref a], []⟩) (fun r s' => r = .ok (.ret (.bool true)) ∧ OldK s₁.heap s'.heap ∧ s'.os = s₁.os ∧ AllBare s'.gens) s₁ := by
    intro H hT hO hS ok out
    have un : ∀ {b : Addr} {o : Obj}, s₁.heap.get? b = some o → b ≠ pT → b ≠ a → (hidT s₁.heap H).get? b = some o := fun {b o} e n1 n2 => hidT_get e (by
      rcases hO b n1 with z | ⟨z, _⟩
      · exact z
      · exact absurd z n2)
    have offD : ∀ {b : Addr} {o : Obj} {es : Array DictEntry} {ep : Nat}, s₁.heap.get? b = some o → o.data = .dict es ep → b ≠ pT ∧ b ≠ a := fun {b o es ep} e d => by
      refine ⟨fun z => ?_, fun z => ?_⟩
      · rw [z, tabE] at e
        cases e
        cases d
      · rw [z, at_] at e
        cases e
        cases d
    have ns' : ∀ {b : Addr} {m : Str → Option Value}, s₁.heap.Ns b m → (hidT s₁.heap H).Ns b m := by
      rintro b m ⟨o, es, ep, e, d, r⟩
      obtain ⟨n1, n2⟩ := offD e d
      exact ⟨o, es, ep, un e n1 n2, d, r⟩
    have inB : K.In (hidT s₁.heap H) := by
      intro b o e
      have n1 : b ≠ pT := fun z => by
        rw [z, outT] at e
        cases e
      refine hidT_get (inK b o e) ?_
      rcases hO b n1 with z | ⟨z, _, _, q⟩
      · exact z
      · subst z
        rw [out (by rw [q]; exact fun y => nomatch y)] at e
        cases e
    obtain ⟨mc, l1, l2⟩ := id lim
    have modB : Mod K mg (hidT s₁.heap H) := ⟨inB, ns' glob, ⟨mb, ns' blt, same⟩, ⟨mc, ns' l1, l2⟩⟩
    have tb : LamX.TabB (hidT s₁.heap H) mg cL pT := by
      have nG : pT ≠ mainGlobals := fun z => by
        obtain ⟨o, es, ep, e, d, _⟩ := id glob
        exact (offD e d).1 z.symm
      refine ⟨?_, ?_, nG.symm⟩
      · obtain ⟨o, us, file, tf, flags, tg, inF, text, tt, e1, r1, r2, r3, r4, r5, r6, r7, r8, hne⟩ := id head
        refine ⟨o, us, file, tf, flags, tg, inF, text, tt, un e1 hne fun z => ?_, r1, r2, r3, r4, r5, r6, r7, r8, hne⟩
        rw [z, at_] at e1
        cases e1
        cases r2
      · obtain ⟨bm, ob, b1, b2, b3, b4, b5, b6⟩ := id main
        have g1 : bm ≠ mainGlobals := fun q => by
          obtain ⟨o, es, ep, e, d, _⟩ := id glob
          rw [q, e] at b3
          cases b3
          rw [d] at b6
          cases b6
        have g2 : bm ≠ pT := fun q => by
          rw [q, tabE] at b3
          cases b3
          cases b6
        have g3 : bm ≠ a := fun q => by
          rw [q, at_] at b3
          cases b3
          cases b6
        exact ⟨bm, ob, b1, b2, g1, g2, un b3 g2 g3, b4, b5, b6⟩
    have noF : ∀ b : Addr, b ∉ frs ([] : List Env) := fun b z => by simp [frs] at z
    have env0 : Env0 P w K mg (hidT s₁.heap H) callerA [] s₁ H := ⟨rfl, modB, fun b o e => of_hidT e, Nat.le_of_eq (hidT_size _ _), trivial, fun b z => absurd z (noF b), ok, .of_eq noG⟩
    refine codeAny_mono ((D _ inB (ns' glob) tb).run callerA [] s₁ H ⟨[.ref a], []⟩ [.ref a] [.ref a] _ _ rfl room env0 (bind s₁ (.ref a)) (.cons rfl .nil) (want H hT hS)) ?_
    intro r s' h
    cases r with
    | error e => exact False.elim h
    | ok fl =>
      cases fl with
      | next => exact False.elim h
      | brk => exact False.elim h
      | cont => exact False.elim h
      | ret u =>
        obtain ⟨v, H', os, bare, B', ok', rel, q⟩ := h
        obtain rfl := (show v = V.bl true from q)
        obtain rfl := (show u = Value.bool true from rel)
        have kept : ∀ b o, b ≠ pT → s₁.heap.get? b = some o → s'.heap.get? b = some o := fun b o nb e => by
          rcases hO b nb with z | ⟨_, ob, xs, z⟩
          · exact B'.keep b o e z (noF b) (by simp)
          · have e1 := (ok b _ z).1
            have e2 := (ok' b _ (B'.frzs b ob _ z)).1
            rw [e] at e1
            cases e1
            exact e2
        obtain ⟨more, zt⟩ := B'.tbls pT #[] hT
        have grown : s'.heap.get? pT = some { cls := .none, data := .fields (#[] ++ more) } := ok' pT _ zt
        refine ⟨rfl, ⟨fun b o e => ?_, fun b o e => ?_⟩, os, bare⟩
        · by_cases hb : b = pT
          · subst hb
            rw [tabE] at e
            cases e
            exact .inr (.inl ⟨(head.tab tabE).isCodeTable, rfl, #[], more, rfl, grown⟩)
          · exact .inl (kept b o hb e)
        · by_cases hb : b = pT
          · rw [hb]
            exact ⟨_, grown⟩
          · exact ⟨o, kept b o hb e⟩
  have leng := areInts.length
  have tabOk : ObjOk P w (fun b => if b = pT then some (.tbl #[]) else none) s₁.heap pT (.tbl #[]) := tabE
  cases hk : K.lookup a with
  | some ob =>
    have e := inK a ob hk
    rw [at_] at e
    cases e
    refine go (fun b => if b = pT then some (.tbl #[]) else none) (if_pos rfl) (fun b nb => .inl (if_neg nb)) (.inr ⟨_, vs.toArray, _, hk, rfl, rfl, rfl, by rw [List.size_toArray, leng]; exact few, by simpa using vals_ints areInts⟩) (fun b u z => ?_) fun z => absurd (if_neg aPT) z
    by_cases hb : b = pT
    · have z' := (if_pos hb).symm.trans z
      cases z'
      rw [hb]
      exact tabE
    · cases (if_neg hb).symm.trans z
  | none =>
    refine go (fun b => if b = pT then some (.tbl #[]) else if b = a then some (.frz { cls := .type "list", data := .seq vs.toArray } (.lst (ns.map V.int))) else none) (if_pos rfl) (fun b nb => ?_) (.inl (.inr ⟨_, (if_neg aPT).trans (if_pos rfl)⟩)) (fun b u z => ?_) fun _ => hk
    · by_cases hb : b = a
      · exact .inr ⟨hb, _, _, (if_neg nb).trans (if_pos hb)⟩
      · exact .inl ((if_neg nb).trans (if_neg hb))
    · by_cases hb : b = pT
      · have z' := (if_pos hb).symm.trans z
        cases z'
        rw [hb]
        exact tabE
      · have z1 := (if_neg hb).symm.trans z
        by_cases h2 : b = a
        · have z' := (if_pos h2).symm.trans z1
          cases z'
          subst h2
          exact ⟨at_, by rw [List.length_map]; exact few, vs, _, vals_ints areInts, at_⟩
        · cases (if_neg h2).symm.trans z1
/-- the goal that k_head leaves: a law with one table of lambdas, kept where no repr is under way -/
theorem walk_guardOwn {l : PySem.W.OpenLaw} {n k : Nat} {q : Program} {loose : List Str} {XP : (Str → Option Value) → Heap → Prop} {YP : World → Heap → Prop} {d : DefRec} {K : Params → PySem.W.Frag} {x : Str}
    (most : l.most = some n) (small : n ≤ sizeLine) (noDf : d.params.defaults = []) (room : Room k callerA) (rec_ : ((recsOf q).any fun e => e.name == d.name) = true) (inK : ∀ (w : World) (h : Heap), YP w h → (K w.params).In h)
    (D : ∀ (w : World) (mg : Str → Option Value) (fa : Addr) (h : Heap), (K w.params).In h → h.Ns mainGlobals mg → mg d.name = some (.ref fa) → LamX.OwnTab (K w.params) fa h →
      ∃ (fd : FuncData) (cL pT : Addr) (sp : Sp), h.get? pT = some { cls := .none, data := .fields #[] } ∧ (K w.params).lookup pT = none ∧ PySem.W.CodeHd h cL pT ∧ (∀ (s : Shared) (u : Value), BindsTo s fd ⟨[u], []⟩ [(x, u)]) ∧
        (∀ (H : Hp) (a : Addr) (ns : List Int), ns.length ≤ n → H pT = some (.tbl #[]) → SqL (K w.params) H a (ns.map V.int) → sp [.ref a] H (fun v _ => v = .bl true) fun _ _ _ => False) ∧
        ∀ base : Heap, (K w.params).In base → base.Ns mainGlobals mg → LamX.TabB base mg cL pT → FnOkG l.prog w (K w.params) mg base k fa fd [x] sp) :
    PySem.W.WalkO q loose XP YP l.row.toRowW d [] (fun f vs => PySem.call f vs) := by
  refine Att.attach_call most noDf fun w s₀ s₁ mg mb fa o pm cd doc a vs ns G Y ho hd hcd hmg hobj hints hlen hg => ?_
  have X := inK w _ Y
  have own : LamX.OwnTab (K w.params) fa s₁.heap := fun c p o1 fd1 e dd vs1 sl k1 k2 k3 k4 k5 => by
    obtain ⟨dL, hm, hn1⟩ := List.any_eq_true.mp rec_
    obtain ⟨a', o', fd', c', p', h1, h2, h3, h4, h5, h6⟩ := G.T.tab dL hm
    rw [show dL.name = d.name from beq_iff_eq.mp hn1, hmg] at h1
    cases h1
    have g1 := X _ _ k1
    rw [g1] at h2
    cases h2
    rw [k2] at h3
    cases h3
    rw [k3] at h4
    cases h4
    obtain ⟨⟨oc, vc, e1, _, e3, e4⟩, done⟩ := h6
    have g2 := X _ _ k4
    rw [g2] at e1
    cases e1
    cases e3
    rw [k5] at e4
    cases e4
    exact done
  obtain ⟨fd, cL, pT, sp, tE, tO, cH, bind, want, hD⟩ := D w mg fa _ X G.T.g hmg own
  exact entry_tab X G.T.g G.T.b G.T.builtins G.T.nolimit hg tE tO cH G.T.bmain hobj hints (Nat.le_trans hlen small) room hD bind fun H h1 h2 => want H a ns hlen h1 h2
/-- a def's promise where no repr is under way, its code object told -/
theorem Fun.okGC {P : Program} {w : World} {K : PySem.W.Frag} {mg : Str → Option Value} {base : Heap} {x qual : Str} {st : Stmt} {f : Addr} {fd : FuncData} {N ps : List Str} {k : Nat} {sp : Sp} (D : Fun K x qual st f fd) (S : FnScope N ps (defScope st)) (many : ∀ vs H Q E, sp vs H Q E → vs.length = ps.length)
    (body : ∀ (A : Around) (outer : List Env) (s : Shared) (H : Hp) (vs : List V) (Q : VK) (E : XK), A.guards = some [] → Room k (A.deeper (envOfC qual (defScope st) s.heap.objs.size f fd.code)) → sp vs H Q E →
      ∃ t, PSs (cxOf CX0 P w K mg base N qual (defScope st) f fd.code A outer s H E).nox (defBody st) t ∧ t { nx := fun _ H' => Q .non H', rt := Q } (start N vs) H) :
    FnOkG P w K mg base (k + 1) f fd ps sp := by
  obtain ⟨oc, od, kV, doc, pm, an, cdv, ct, osl, rfl, look, code⟩ := D.ex
  refine ⟨fun A outer s H args us vs Q E guards room env0 bind rel want => ?_⟩
  have lens := many _ _ _ _ want
  have inK : K.In s.heap := env0.mod.kin.keeps fun b o e => (env0.bs b o e).1
  have free : s.heap.NoLimit := env0.mod.nolimit.keeps fun b o e => (env0.bs b o e).1
  have kinds : ∀ y ∈ ps.zip us, (defScope st).names.lookup y.1 = some .local ∨
      ((defScope st).names.lookup y.1 = some .cell ∧ ((cellsFrom (s.heap.objs.size + 1) (defScope st).names []).lookup y.1).isSome = true) := by
    rintro ⟨n, v⟩ hy
    rcases S.par n (List.of_mem_zip hy).1 with q | q
    · exact Or.inl q
    · exact Or.inr ⟨q, PySem.W.cellsFrom_some _ _ _ (.inl q)⟩
  refine codeAny_call_function room.depth (inK _ _ look) rfl S.co S.gen rfl
    (PySem.W.codeRec_of inK code) (bind _ _ _ _ ?_)
  refine wpAny_newFunctionEnv_cells S.kind kinds fun env hEnv s1 inCall => ?_
  subst hEnv
  refine ⟨free.keeps inCall.toInCall.keep, codeAny_func ?_⟩
  obtain ⟨t, ht, hq⟩ := body A outer s H vs Q E guards (room.deeper _) want
  have start0 := inv_start (CX := CX0) (P := P) (w := w) (mg := mg) (base := base) (E := E) S room.hd env0 lens rel inCall
  refine wpAny_mono (ht.nox.run [] s1 (start N vs) H _ start0 hq) (fun fl s' hs => ?_) fun e s' hs => hs
  cases fl with
  | ret u =>
    obtain ⟨v, σ', H', J, rv, q⟩ := hs
    exact ⟨v, H', J.os, J.bare, J.base, J.hok, rv, q⟩
  | next =>
    obtain ⟨σ', H', J, q⟩ := hs
    exact ⟨.non, H', J.os, J.bare, J.base, J.hok, rfl, q⟩
  | brk =>
    obtain ⟨_, _, _, q⟩ := hs
    exact q.elim
  | cont =>
    obtain ⟨_, _, _, q⟩ := hs
    exact q.elim
end L2
/-! Piece of a wrong term; reprs of places; what stands while law of k03 runs. -/
namespace Jd
open PySem PySem.Spec PyProof.Rows L2 RZ LamX Lm Dk
abbrev sPieceInit : Stmt := inClass (Jd.top 46) 0
theorem scPieceInit : FnScope ["self", "size", "names", "term", "kind"] ["self", "size", "names", "term"] (defScope sPieceInit) := ⟨rfl, rfl, rfl, by decide +kernel, rfl, by decide +kernel, by decide +kernel⟩
/-- what is never reached -/
theorem pss_never {X : Cx} {l : List Stmt} : PSs X l (fun _ _ _ => False) := ⟨fun _ _ _ _ _ _ h => h.elim⟩
section
variable {P : Program} {w : World} {K : PySem.W.Frag} {mg : Str → Option Value} {base : Heap} {cN cS cT : Addr}
/-- right names and a wrong term -/
def BadTermAt (K : PySem.W.Frag) (cT : Addr) (H : Hp) (n : Int) (a : Addr) (v : V) (E : XK) : Prop := ∃ (l : NmL) (o : Option (List (Key × PyData))) (d : PyData) (p : List Int), withinD 2 4 (.int n) = true ∧ NmAt K H (.ref a) o ∧ namesD o = true ∧ NmD K H a l ∧ NmlOk l ∧ l.length ≤ 78 ∧ Dp K H v d ∧ Deep fineD d ∧ sortM n 12 l d [] 0 = .error p ∧
  ∀ H' q' x, Same H H' → SqT K H' q' (p.map V.int) → H' x = none → E (.ref cT) (some x) (upd H' x (.xd [(("at" : Str), .ref q')]))
def spPieceBad (K : PySem.W.Frag) (cT : Addr) : Sp := fun vs H Q E => ∃ (sf v : V) (n : Int) (a : Addr), vs = [sf, .int n, .ref a, v] ∧ BadTermAt K cT H n a v E
theorem ok_pieceBad {f fZ fM fC : Addr} {fd dZ dM dC : FuncData} (F : Fun K "__init__" "Piece.__init__" sPieceInit f fd) (G : Chk P w K mg base cN cS fZ fM dZ dM) (GC : FnOk P w K mg base (L2.CX P w) 18 fC dC ["size", "names", "term"] (spChecked K cT)) (kC : PySem.W.keepIn K (.ref fC) = true) (bC : Binds K dC ["size", "names", "term"] []) (mC : mg "checked_sort" = some (.ref fC)) :
    FnOk P w K mg base (L2.CX P w) 19 f fd ["self", "size", "names", "term"] (spPieceBad K cT) := by
  refine F.okX scPieceInit (fun vs H Q E h => ?_) (fun cdv A outer s H vs Q E hr h => ?_)
  · obtain ⟨sf, v, n, a, rfl, _⟩ := h
    rfl
  · obtain ⟨sf, v, n, a, rfl, l, o, d, p, e1, hn, e2, hl, ok, hll, hd, hdeep, e, k⟩ := h
    have nd := scPieceInit.nd
    have hr3 := hr.mono (show 3 ≤ 18 by decide)
    have hr4 := hr.mono (show 4 ≤ 18 by decide)
    let X : Cx := cxOf (L2.CX P w) P w K mg base ["self", "size", "names", "term", "kind"] "Piece.__init__" (defScope sPieceInit) f cdv A outer s H E
    have tk : Takes X (fun cls d _ H => E cls d H) := takes_of rfl rfl rfl rfl
    have px : Passes (L2.CX P w) X E := passes_call tk (fun _ _ _ _ h => h)
    refine ⟨_, pss_cons (ps_expr (X := X) (pe_callS (E := WE fun cls d _ H => E cls d H) G.gZ hr3 rfl G.mZ G.kZ G.bZ (fun σ => passAt (takes_of rfl rfl rfl rfl) σ) (pa_cons (pv 1) pa_nil)))
      (pss_cons (ps_expr (pe_callS (E := WE fun cls d _ H => E cls d H) G.gM hr4 rfl G.mM G.kM G.bM (fun σ => passAt (takes_of rfl rfl rfl rfl) σ) (pa_cons (pv 2) pa_nil)))
      (pss_cons (ps_set (i := 4) nd rfl (Or.inl rfl) (pe_call GC hr rfl mC kC bC .nil px (pa_cons (pv 1) (pa_cons (pv 2) (pa_cons (pv 3) pa_nil))))) pss_never)), ?_⟩
    refine ⟨_, rfl, _, _, rfl, .int n, fun _ => ?_, fun z => absurd (z.symm.trans e1) Bool.false_ne_true⟩
    refine ⟨_, rfl, _, o, rfl, hn, fun _ H1 s1 => ?_, fun z => absurd (z.symm.trans e2) Bool.false_ne_true⟩
    refine ⟨_, rfl, _, rfl, _, rfl, a, v, n, l, d, rfl, hl.same s1, ok, hll, dp_same s1 hd, hdeep, fun g c' H2 z _ => ?_, fun p' H2 q' x z s2 hq nx => ?_⟩
    · rw [e] at z
      cases z
    · rw [e] at z
      cases z
      exact k H2 q' x (s1.trans s2) hq nx
end
/-! ### reprs of places -/
theorem ints_repr : ∀ p : List Int, (∀ i ∈ p, 0 ≤ i ∧ i ≤ 1000) → PyData.showableAll (p.map PyData.int) = true ∧ PyData.depthAll (p.map PyData.int) = 0 ∧ PyData.leavesShortAll 13 (p.map PyData.int) = true ∧ PyData.weightAll (p.map PyData.int) ≤ 12 * p.length
  | [], _ => by simp [PyData.showableAll, PyData.depthAll, PyData.leavesShortAll, PyData.weightAll]
  | i :: p, h => by
    obtain ⟨h1, h2, h3, h4⟩ := ints_repr p fun j hj => h j (List.mem_cons_of_mem _ hj)
    obtain ⟨i0, i1⟩ := h i List.mem_cons_self
    have lg : i.natAbs.log2 ≤ 10 := by
      have z : i.natAbs < 2 ^ 11 := by omega
      by_cases e : i.natAbs = 0
      · rw [e]; decide
      · have := (Nat.log2_lt e).mpr z
        omega
    refine ⟨?_, ?_, ?_, ?_⟩
    · simp only [List.map_cons, PyData.showableAll, PyData.showable, h1, Bool.and_true, decide_eq_true_eq]
      omega
    · simp only [List.map_cons, PyData.depthAll, PyData.depth, h2]
      decide
    · simp only [List.map_cons, PyData.leavesShortAll, PyData.leavesShort, h3, Bool.and_true, decide_eq_true_eq]
      have := PySem.W.KT.len_num (n := i) i0 (by omega)
      show (PySem.Str.ofString (toString i)).length ≤ 13
      omega
    · simp only [List.map_cons, PyData.weightAll, PyData.weight, List.length_cons]
      split <;> omega
theorem place_repr {p : List Int} (hl : p.length ≤ 100) (h : ∀ i ∈ p, 0 ≤ i ∧ i ≤ 1000) : (PyData.tuple (p.map PyData.int)).showable = true ∧ (PyData.tuple (p.map PyData.int)).depth ≤ 50 ∧ (PyData.tuple (p.map PyData.int)).shown.length ≤ sizeLine := by
  obtain ⟨h1, h2, h3, h4⟩ := ints_repr p h
  refine ⟨by simp only [PyData.showable]; exact h1, by simp only [PyData.depth]; omega, ?_⟩
  have z := PyData.shown_le 13 (by decide) (.tuple (p.map PyData.int)) (by simp only [PyData.leavesShort]; exact h3)
  simp only [PyData.weight] at z
  rw [sizeLine_eq]
  omega
theorem along_bound {d q : PyData} (td : TD d) : ∀ {p : List Int}, alongD d p = some q → ∀ i ∈ p, 0 ≤ i ∧ i ≤ 1000 := by
  intro p
  induction p generalizing d with
  | nil => intro _ i hi; cases hi
  | cons j p ih =>
    intro e i hi
    cases d with
    | tuple ds =>
      obtain ⟨j, d2, rfl, hj, a2⟩ := along_cons e
      cases td with
      | tup few all =>
        rcases List.mem_cons.mp hi with rfl | z
        · have := (List.getElem?_eq_some_iff.mp hj).1
          omega
        · exact ih (all d2 (List.mem_of_getElem? hj)) a2 i z
    | _ => cases e
theorem Pl.len {n : Int} {l : NmL} {d : PyData} {g : Str} {k h : Nat} (t : Typ n l d g k h) {p : List Int} {w : Option Str} {l' : NmL} (pl : Pl l d p w l') : p.length ≤ 2 * h := by
  induction pl generalizing g k h with
  | nil => simp
  | @cons l ds ps i pth q0 p w l' paths hp al pl ih =>
    obtain @⟨_, _, ps', _, h, qs, ss, ks, form, paths', given, lq, ls, lk, along, want, parts⟩ := t
    rw [paths] at paths'
    cases paths'
    have hi := (List.getElem?_eq_some_iff.mp hp).1
    have hq := List.getElem?_eq_getElem (show i < qs.length by omega)
    have eq0 : qs[i] = q0 := by
      have z := along i _ _ hp hq
      rw [al] at z
      exact (Option.some.inj z).symm
    have z := ih (eq0 ▸ parts i _ _ _ hq (List.getElem?_eq_getElem (show i < ss.length by omega)) (List.getElem?_eq_getElem (show i < ks.length by omega)))
    have y := (paths_fine paths hp).2
    rw [List.length_append]
    omega
  | @last l ds ps i pth q0 wd paths hp al want0 _ =>
    have y := (paths_fine paths hp).2
    have := t.pos.2
    omega
theorem Pl.typ {n : Int} {l : NmL} {d : PyData} {g : Str} {k h : Nat} (t : Typ n l d g k h) {p : List Int} {w : Option Str} {l' : NmL} (pl : Pl l d p w l') : ∃ q g' k' h', alongD d p = some q ∧ Typ n l' q g' k' h' := by
  induction pl generalizing g k h with
  | nil => exact ⟨_, _, _, _, along_nil _, t⟩
  | @cons l ds ps i pth q0 p w l' paths hp al pl ih =>
    obtain @⟨_, _, ps', _, h, qs, ss, ks, form, paths', given, lq, ls, lk, along, want, parts⟩ := t
    rw [paths] at paths'
    cases paths'
    have hi := (List.getElem?_eq_some_iff.mp hp).1
    have hq := List.getElem?_eq_getElem (show i < qs.length by omega)
    have eq0 : qs[i] = q0 := by
      have z := along i _ _ hp hq
      rw [al] at z
      exact (Option.some.inj z).symm
    obtain ⟨q, g', k', h', e1, e2⟩ := ih (eq0 ▸ parts i _ _ _ hq (List.getElem?_eq_getElem (show i < ss.length by omega)) (List.getElem?_eq_getElem (show i < ks.length by omega)))
    exact ⟨q, g', k', h', (along_app al).trans e1, e2⟩
  | @last l ds ps i pth q0 wd paths hp al want0 _ =>
    obtain @⟨_, _, ps', _, h, qs, ss, ks, form, paths', given, lq, ls, lk, along, want, parts⟩ := t
    rw [paths] at paths'
    cases paths'
    have hi := (List.getElem?_eq_some_iff.mp hp).1
    have hq := List.getElem?_eq_getElem (show i < qs.length by omega)
    have eq0 : qs[i] = q0 := by
      have z := along i _ _ hp hq
      rw [al] at z
      exact (Option.some.inj z).symm
    exact ⟨q0, _, _, _, al, eq0 ▸ parts i _ _ _ hq (List.getElem?_eq_getElem (show i < ss.length by omega)) (List.getElem?_eq_getElem (show i < ks.length by omega))⟩
theorem Typ.form {n : Int} {l : NmL} {d : PyData} {g : Str} {k h : Nat} (t : Typ n l d g k h) : formD n l d = true := by
  cases t
  assumption
/-- what stands behind is no beginning: it leads somewhere all the same -/
theorem along_other {d y b : PyData} : ∀ {p q : List Int}, alongD d q = some y → (∃ z, alongD d p = some z) → q.take p.length ≠ p → ∃ y', alongD (withD p d b) q = some y' := by
  intro p
  induction p generalizing d with
  | nil => intro q _ _ h; exact absurd rfl h
  | cons i p ih =>
    intro q hq ⟨z, hz⟩ hne
    cases q with
    | nil => exact ⟨_, along_nil _⟩
    | cons j q =>
      cases d with
      | tuple ds =>
        obtain ⟨i, d1, rfl, hi, a1⟩ := along_cons hz
        obtain ⟨j, d2, rfl, hj, a2⟩ := along_cons hq
        have e1 : ds.getD (i : Int).toNat .none = d1 := by
          rw [Int.toNat_natCast, List.getD_eq_getElem?_getD, hi]
          rfl
        simp only [withD]
        rw [e1, Int.toNat_natCast]
        by_cases e : i = j
        · subst e
          rw [hi] at hj
          cases hj
          obtain ⟨y', h'⟩ := ih a2 ⟨z, a1⟩ fun q' => hne (by rw [List.length_cons, List.take_succ_cons, q'])
          exact ⟨y', by rw [along_nat (by rw [List.getElem?_set_self (List.getElem?_eq_some_iff.mp hi).1])]; exact h'⟩
        · exact ⟨y, by rw [along_set (fun z => e z.symm)]; exact hq⟩
      | _ => cases hq
theorem Same.refl' (H : Hp) : Same H H := Same.refl H
/-! ### what stands while law runs -/
structure Good2 (T : List (Addr × Str)) (H : Hp) (d l c : Addr) : Prop where
  D : DrawAt H d l c
  T : Tabs T H
/-- names are drawn -/
structure S2 (T : List (Addr × Str)) (H : Hp) (n : Int) (p : Addr) (nm : NmS) (d l c : Addr) : Prop where
  G : Good2 T H d l c
  N : NmsAt H p nm
  gn : GoodNm nm
  nd : (nm.map Prod.fst).Nodup
  w4 : ∀ q ∈ nm, q.1 ∈ words4
  pd : p ≠ d
  pl : p ≠ l
  n2 : 2 ≤ n
  n4 : n ≤ 4
section
variable {T : List (Addr × Str)} {H H' : Hp} {d l c p : Addr} {n : Int} {nm : NmS} {K : PySem.W.Frag} {cN cS cT : Addr}
theorem Good2.same (g : Good2 T H d l c) (s : Same H H') : Good2 T H' d l c := ⟨g.D.same s, g.T.ext s⟩
theorem Good2.but (g : Good2 T H d l c) (D : DrawAt H' d l c) (B : But H H' d l) : Good2 T H' d l c := ⟨D, tabs_but g.T g.D B⟩
theorem Good2.ext {H1 : Hp} (g : Good2 T H d l c) (e : ExtN H H1) (t : Tabs T H1) : Good2 T H1 d l c := ⟨(Kp.ext e).draw g.D, t⟩
theorem S2.same (g : S2 T H n p nm d l c) (s : Same H H') : S2 T H' n p nm d l c := ⟨g.G.same s, g.N.same s, g.gn, g.nd, g.w4, g.pd, g.pl, g.n2, g.n4⟩
theorem S2.but (g : S2 T H n p nm d l c) (D : DrawAt H' d l c) (B : But H H' d l) : S2 T H' n p nm d l c := ⟨g.G.but D B, g.N.but g.G.D B g.pd g.pl, g.gn, g.nd, g.w4, g.pd, g.pl, g.n2, g.n4⟩
theorem NmsAt.kp {H1 : Hp} (n : NmsAt H p nm) (s : Kp H H1) : NmsAt H1 p nm := by
  obtain ⟨vs, h1, h2, h3⟩ := n
  refine ⟨vs, h1, s _ _ h2 rfl, fun i v q e1 e2 => ?_⟩
  obtain ⟨a, b, e, ea, eb⟩ := h3 i v q e1 e2
  exact ⟨a, b, e, s _ _ ea rfl, s _ _ eb rfl⟩
theorem S2.ext {H1 : Hp} (g : S2 T H n p nm d l c) (e : ExtN H H1) (t : Tabs T H1) : S2 T H1 n p nm d l c := ⟨g.G.ext e t, g.N.kp (.ext e), g.gn, g.nd, g.w4, g.pd, g.pl, g.n2, g.n4⟩
theorem words4_ne : ∀ y ∈ words4, y ≠ "other" := by decide +kernel
theorem S2.nmG (g : S2 T H n p nm d l c) : NmG (toNm nm) := words_nmG g.gn g.nd fun q hq => words4_ne _ (g.w4 q hq)
theorem S2.len (g : S2 T H n p nm d l c) : (toNm nm).length ≤ 4 := by
  have := g.gn.1
  unfold toNm
  rw [List.length_map]
  exact this
theorem S2.in0 (g : S2 T H n p nm d l c) : In0 K H n (toNm nm) d l c p := ⟨g.G.D, g.n2, g.n4, g.N.nmD, g.nmG, by have := g.len; omega, g.pd⟩
theorem S2.within (g : S2 T H n p nm d l c) : withinD 2 4 (.int n) = true := by
  simp only [withinD, Bool.and_eq_true, decide_eq_true_eq]
  exact ⟨g.n2, g.n4⟩
/-- a wrong term over these names -/
theorem S2.bad {v : V} {e : PyData} {pp : List Int} {E : XK} (g : S2 T H n p nm d l c) (hd : Dp K H v e) (od : OD e) (er : sortM n 12 (toNm nm) e [] 0 = .error pp) (k : ∀ H' q' x, Same H H' → SqT K H' q' (pp.map V.int) → H' x = none → E (.ref cT) (some x) (upd H' x (.xd [(("at" : Str), .ref q')]))) : BadTermAt K cT H n p v E := by
  obtain ⟨a1, a2⟩ := g.N.nmAt (K := K) g.gn
  have ln := g.len
  exact ⟨toNm nm, _, e, pp, g.within, a1, a2, g.N.nmD, g.nmG.nml, by omega, hd, od.deep, er, k⟩
theorem BadTermAt.sortOf {v : V} {E : XK} {Q : VK} (h : BadTermAt K cT H n p v E) : spSortOfW K cN cS cT [.int n, .ref p, v] H Q E := by
  obtain ⟨l, o, dd, pp, e1, hn, e2, hl, ok, hll, hd, hdeep, e, k⟩ := h
  refine ⟨_, _, _, rfl, .inr ⟨n, p, l, o, dd, rfl, rfl, e1, hn, e2, hl, ok, hll, hd, hdeep, fun g c' H' z _ => ?_, fun p' H' q' x z s hq nx => ?_⟩⟩
  · rw [e] at z
    cases z
  · rw [e] at z
    cases z
    exact k H' q' x s hq nx
theorem S2.isTerm0 {v : V} {e : PyData} {pp : List Int} {E : XK} {Q : VK} (g : S2 T H n p nm d l c) (hd : Dp K H v e) (od : OD e) (er : sortM n 12 (toNm nm) e [] 0 = .error pp) (k : ∀ H', Same H H' → Q (.bl false) H') : spIsTermW K cN cS [.int n, .ref p, v] H Q E := by
  obtain ⟨a1, a2⟩ := g.N.nmAt (K := K) g.gn
  have ln := g.len
  refine ⟨_, _, _, rfl, .inr ⟨n, p, toNm nm, _, e, rfl, rfl, g.within, a1, a2, g.N.nmD, g.nmG.nml, by omega, hd, od.deep, fun _ _ H' z _ => ?_, fun p' H' _ s => k H' s⟩⟩
  rw [er] at z
  cases z
end
end Jd
/-! law of k03: its frame, what it calls, the statements of a turn up to the spoilt term. -/
namespace Jd
open PySem PySem.Spec PyProof.Rows L2 RZ LamX Lm Dk
abbrev sLaw3 : Stmt := Jd.top 66
abbrev lw3N : List Str := ["script", "draw", "turn", "size", "names_here", "term_here", "places_here", "place", "wanted", "bad", "item", "whole", "later", "caught", "arms"]
theorem scLaw3 : FnScope lw3N ["script"] (defScope sLaw3) := ⟨rfl, rfl, rfl, by decide +kernel, rfl, by decide +kernel, by decide +kernel⟩
theorem nd3 : lw3N.Nodup := scLaw3.nd
/-- repr, told by the written part alone -/
def rReprK (K : PySem.W.Frag) : List V → Hp → VK → Prop := fun xs H Q => ∃ (a : Addr) (d : PyData), xs = [.ref a] ∧ (∀ X : Cx, X.K = K → ReadsV X H (.ref a) d) ∧ d.showable = true ∧ d.depth ≤ 50 ∧ d.shown.length ≤ sizeLine ∧ Q (.str d.shown) H
theorem call_reprK {X : Cx} {K : PySem.W.Frag} (hK : X.K = K) (hg : X.A.guards = some []) (hu : X.A.units + 64 < cLine) : CallR X (.builtin "repr") (rReprK K) := fun pins s σ H xs us Q I r h => by
  obtain ⟨a, d, e, hr, q⟩ := h
  exact call_reprV hg hu pins s σ H xs us Q I r ⟨a, d, e, hr X hK, q⟩
structure LawTop3 (P : Program) (w : World) (K : PySem.W.Frag) (mg : Str → Option Value) (base : Heap) (cN cS cT : Addr) : Prop where
  begun : ∃ f fd, Has P w K mg base CX0 "_law_begun" 1 ["script"] (spBegun K) f fd
  pick : ∃ f fd, Has P w K mg base CX0 "_law_pick" 3 ["draw", "some"] (spPick K) f fd
  take : ∃ f fd, Has P w K mg base CX0 "_law_take" 2 ["draw", "amount"] spTake f fd
  names : ∃ f fd, Has P w K mg base CX0 "_law_names" 4 ["draw", "many", "most_args"] spLawNames f fd
  fine : ∃ f fd, Has P w K mg base CX0 "_law_fine_term" 12 ["draw", "size", "names_here", "sort_here", "deep"] (spLFine K) f fd
  places : ∃ f fd, Has P w K mg base CX0 "_law_places" 6 ["term_here", "at"] (spLPlaces K 5) f fd
  piece : ∃ f fd, Has P w K mg base CX0 "_law_piece" 1 ["term_here", "at"] (spLPiece K) f fd
  with_ : ∃ f fd, Has P w K mg base CX0 "_law_with" 14 ["term_here", "at", "piece"] (spLWith K 12) f fd
  odd : ∃ f fd, Has P w K mg base CX0 "_law_odd" 4 ["draw", "size", "names_here", "piece"] (spLOdd K) f fd
  isTerm : ∃ f fd, Has P w K mg base (L2.CX P w) "is_term" 19 ["size", "names", "thing"] (spIsTermW K cN cS) f fd
  sortOf : ∃ f fd, Has P w K mg base (L2.CX P w) "sort_of" 19 ["size", "names", "term"] (spSortOfW K cN cS cT) f fd
  made : ∃ C f fd, mg "Piece" = some (.ref C) ∧ Mk K C f ∧ FnOk P w K mg base (L2.CX P w) 19 f fd ["self", "size", "names", "term"] (spPieceBad K cT) ∧ Binds K fd ["self", "size", "names", "term"] []
  len : mg "len" = none
  min : mg "min" = none
  rng : mg "range" = none
  rep : mg "repr" = none
  isi : mg "isinstance" = none
/-- the frame of law -/
structure FrM where
  a : Addr
  d : Addr
  v2 : Option V
  v3 : Option V
  v4 : Option V
  v5 : Option V
  v6 : Option V
  v7 : Option V
  v8 : Option V
  v9 : Option V
  v10 : Option V
  v11 : Option V
  v12 : Option V
  v13 : Option V
  v14 : Option V
abbrev FrM.st (q : FrM) : L2.St := [some (.ref q.a), some (.ref q.d), q.v2, q.v3, q.v4, q.v5, q.v6, q.v7, q.v8, q.v9, q.v10, q.v11, q.v12, q.v13, q.v14]
abbrev Kc (H H' : Hp) (d l : Addr) : Prop := Kp (Cut H d l) (Cut H' d l)
section
variable {T : List (Addr × Str)} {H H' : Hp} {d l c p : Addr} {n : Int} {nm : NmS} {K : PySem.W.Frag}
theorem Kc.same (s : Same H H') : Kc H H' d l := .of (cut_same s)
theorem Kc.but (B : But H H' d l) : Kc H H' d l := .of (cut_but B)
theorem Kc.ext (e : ExtN H H') : Kc H H' d l := fun b o h i => by
  have z := cut_sub _ _ h
  have y := Kp.ext e b o z i
  unfold Cut at h ⊢
  split at h
  · cases h
  · rename_i nn
    rw [if_neg nn]
    exact y
theorem tup_kc {b : Addr} {xs : List V} (k : Kc H H' d l) (e : Cut H d l b = some (.tup xs)) : Cut H' d l b = some (.tup xs) := k _ _ e rfl
theorem lst_kc {b : Addr} {xs : List V} (k : Kc H H' d l) (e : Cut H d l b = some (.lst xs)) : Cut H' d l b = some (.lst xs) := k _ _ e rfl
/-- one of places_here -/
def PlOk (HC : Hp) (nm : NmL) (dd : PyData) (t : V) : Prop := ∃ (a b : Addr) (p : List Int) (w : Option Str) (l' : NmL), t = .ref a ∧ HC a = some (.tup [.ref b, optV w]) ∧ HC b = some (.tup (p.map V.int)) ∧ Pl nm dd p w l'
theorem PlOk.kp {HC HC' : Hp} {nm : NmL} {dd : PyData} {t : V} (h : PlOk HC nm dd t) (k : Kp HC HC') : PlOk HC' nm dd t := by
  obtain ⟨a, b, p, w, l', h1, h2, h3, h4⟩ := h
  exact ⟨a, b, p, w, l', h1, k _ _ h2 rfl, k _ _ h3 rfl, h4⟩
/-- one of later -/
def LtOk (HC : Hp) (nm : NmL) (dd : PyData) (pp : List Int) (t : V) : Prop := ∃ (b : Addr) (q : List Int) (w : Option Str) (l' : NmL), t = .ref b ∧ HC b = some (.tup (q.map V.int)) ∧ Pl nm dd q w l' ∧ Beh q pp
theorem LtOk.kp {HC HC' : Hp} {nm : NmL} {dd : PyData} {pp : List Int} {t : V} (h : LtOk HC nm dd pp t) (k : Kp HC HC') : LtOk HC' nm dd pp t := by
  obtain ⟨b, q, w, l', h1, h2, h3, h4⟩ := h
  exact ⟨b, q, w, l', h1, k _ _ h2 rfl, h3, h4⟩
end
section
variable {P : Program} {w : World} {K : PySem.W.Frag} {mg : Str → Option Value} {base : Heap} {cN cS cT cL f : Addr} {A : Around} {outer : List Env} {s0 : Shared} {H0 : Hp} {E : XK} {T : List (Addr × Str)}
abbrev LZ (P : Program) (w : World) (K : PySem.W.Frag) (mg : Str → Option Value) (base : Heap) (f cL : Addr) (A : Around) (outer : List Env) (s0 : Shared) (H0 : Hp) (E : XK) : Cx := (cxOf CX0 P w K mg base lw3N "law" (defScope sLaw3) f (.ref cL) A outer s0 H0 E).nox
abbrev RoomZ (f cL : Addr) (A : Around) (s0 : Shared) : Prop := Room 24 (A.deeper (envOfC "law" (defScope sLaw3) s0.heap.objs.size f (.ref cL)))
def lbody3 : List Stmt := match (defBody sLaw3).getD 1 (.Pass ⟨0, 0, 0, 0⟩) with
  | .For _ _ b _ _ => b
  | _ => []
abbrev le3 (i : Nat) : Stmt := lbody3.getD i (.Pass ⟨0, 0, 0, 0⟩)
theorem lbody3_eq : lbody3 = [le3 0, le3 1, le3 2, le3 3, le3 4, le3 5, le3 6, le3 7, le3 8, le3 9, le3 10, le3 11, le3 12] := by rfl
/-- size, names_here = .. -/
theorem b0 (G : LawTop3 P w K mg base cN cS cT) (hr : RoomZ f cL A s0) : PS (LZ P w K mg base f cL A outer s0 H0 E) (le3 0) (fun D σ H => ∃ (q : FrM) (l c : Addr), σ = q.st ∧ Good2 T H q.d l c ∧ ∀ n p nm H', S2 T H' n p nm q.d l c → D.nx { q with v3 := some (.int n), v4 := some (.ref p) }.st H') := by
  obtain ⟨fT, dT, gT⟩ := G.take
  obtain ⟨fN, dN, gN⟩ := G.names
  refine PS.imp (ps_asg (X := LZ P w K mg base f cL A outer s0 H0 E) (pe_tup (pa_cons (pe_op op_add pe_int (gT.pe (hr.mono (show 2 ≤ 24 by decide)) pass0 (pa_cons (pv 1) (pa_cons pe_int pa_nil)) rfl)) (pa_cons (gN.pe (hr.mono (show 4 ≤ 24 by decide)) pass0 (pa_cons (pv 1) (pa_cons pe_int (pa_cons pe_int pa_nil))) rfl) pa_nil))) (pg_tup (by rfl) (pgs_cons (pg_name (i := 3) nd3 rfl (Or.inr rfl)) (pgs_cons (pg_name (i := 4) nd3 rfl (Or.inr rfl)) pgs_nil)))) fun D σ H h => ?_
  obtain ⟨q, l, c, rfl, g0, k⟩ := h
  refine ⟨_, rfl, q.d, l, c, 3, rfl, by decide, by decide, g0.D, fun i H1 i0 i3 D1 B1 => ⟨_, _, rfl, rfl, ?_⟩⟩
  have g1 := g0.but D1 B1
  refine ⟨_, rfl, q.d, l, c, 4, 2, rfl, by decide, D1, fun p nm H2 D2 B2 np hN hg hn hw => ⟨by show 2 ≤ sizeLine; decide, fun t nt => ?_⟩⟩
  have pn := new_dl D1 np
  have st := new_same (o := .tup [.int (2 + i), .ref p]) nt
  refine ⟨t, _, rfl, .inl (.inl upd_same), rfl, _, _, rfl, _, [], rfl, rfl, ?_⟩
  exact k (2 + i) p nm _ (S2.same ⟨g1.but D2 B2, hN, hg, hn, fun q hq => (hw.2 q hq).1, pn.1, pn.2.1, by omega, by omega⟩ st)
/-- term_here = .. -/
theorem b1 (G : LawTop3 P w K mg base cN cS cT) (hr : RoomZ f cL A s0) : PS (LZ P w K mg base f cL A outer s0 H0 E) (le3 1) (fun D σ H => ∃ (q : FrM) (n : Int) (p : Addr) (nm : NmS) (l c : Addr), σ = q.st ∧ q.v3 = some (.int n) ∧ q.v4 = some (.ref p) ∧ S2 T H n p nm q.d l c ∧
    ∀ v dd g k H', S2 T H' n p nm q.d l c → Dp K (Cut H' q.d l) v dd → TD dd → Typ n (toNm nm) dd g k 5 → k ≤ 60 → D.nx { q with v5 := some v }.st H') := by
  obtain ⟨fP, dP, gP⟩ := G.pick
  obtain ⟨fF, dF, gF⟩ := G.fine
  refine PS.imp (ps_set (X := LZ P w K mg base f cL A outer s0 H0 E) (i := 5) nd3 rfl (Or.inl rfl) (gF.pe (hr.mono (show 12 ≤ 24 by decide)) pass0 (pa_cons (pv 1) (pa_cons (pv 3) (pa_cons (pv 4) (pa_cons (gP.pe (hr.mono (show 3 ≤ 24 by decide)) pass0 (pa_cons (pv 1) (pa_cons (pe_lst (pa_cons pe_str (pa_cons pe_str pa_nil))) pa_nil)) rfl) (pa_cons pe_int pa_nil))))) rfl)) fun D σ H h => ?_
  obtain ⟨q, n, p, nm, l, c, rfl, e3, e4, g0, k⟩ := h
  refine ⟨_, rfl, .int n, by rw [← e3]; rfl, .ref p, by rw [← e4]; rfl, _, rfl, by show 2 ≤ sizeLine; decide, fun u nu => ?_⟩
  have su := new_same (o := .lst [.str "num", .str "do"]) nu
  have un := new_dl g0.G.D nu
  have g1 := g0.same su
  refine ⟨q.d, l, c, u, [.str "num", .str "do"], rfl, upd_same, un.1, un.2.1, by decide, by decide, g1.G.D, fun i x H2 hx D2 B2 => ?_⟩
  have hy : ∃ y : Str, x = .str y ∧ endB y = true := by
    match i, hx with
    | 0, hx => cases hx; exact ⟨_, rfl, by decide +kernel⟩
    | 1, hx => cases hx; exact ⟨_, rfl, by decide +kernel⟩
    | i + 2, hx => simp at hx
  obtain ⟨y, rfl, hy⟩ := hy
  have g2 := g1.but D2 B2
  have ln := g0.len
  refine ⟨q.d, l, c, p, n, toNm nm, y, rfl, g2.in0, by omega, hy, fun v H3 D3 B3 t => ?_⟩
  have g3 := g2.but D3 B3
  obtain ⟨dd, kk, h1, h2, h3, h4⟩ := t.cut g3.G.D
  exact k v dd y kk H3 g3 h1 h2 h3 h4
/-- places_here = .. -/
theorem b2 (G : LawTop3 P w K mg base cN cS cT) (hr : RoomZ f cL A s0) : PS (LZ P w K mg base f cL A outer s0 H0 E) (le3 2) (fun D σ H => ∃ (q : FrM) (n : Int) (p : Addr) (nm : NmS) (l c : Addr) (v : V) (dd : PyData) (g : Str) (k : Nat), σ = q.st ∧ q.v5 = some v ∧ S2 T H n p nm q.d l c ∧ Dp K (Cut H q.d l) v dd ∧ TD dd ∧ Typ n (toNm nm) dd g k 5 ∧ k ≤ 60 ∧
    ∀ pl ts H', S2 T H' n p nm q.d l c → Kc H H' q.d l → Cut H' q.d l pl = some (.lst ts) → 0 < ts.length → ts.length ≤ 61 → (∀ t ∈ ts, PlOk (Cut H' q.d l) (toNm nm) dd t) → D.nx { q with v6 := some (.ref pl) }.st H') := by
  obtain ⟨fP, dP, gP⟩ := G.places
  refine PS.imp (ps_set (X := LZ P w K mg base f cL A outer s0 H0 E) (i := 6) nd3 rfl (Or.inl rfl) (pe_op op_cat (pe_lst (pa_cons (pe_tup (pa_cons (pe_tup pa_nil) (pa_cons pe_non pa_nil))) pa_nil)) (gP.pe (hr.mono (show 6 ≤ 24 by decide)) pass0 (pa_cons (pv 5) (pa_cons (pe_tup pa_nil) pa_nil)) rfl))) fun D σ H h => ?_
  obtain ⟨q, n, p, nm, l, c, v, dd, g, k, rfl, e5, g0, hv, td, ty, k60, kk⟩ := h
  refine ⟨Nat.zero_le _, fun t1 n1 => ?_⟩
  have s1 := new_same (o := .tup []) n1
  have e1 : (upd H t1 (.tup [])) t1 = some (.tup []) := upd_same
  generalize upd H t1 (.tup []) = H1 at s1 e1 ⊢
  refine ⟨by show 2 ≤ sizeLine; decide, fun t2 n2 => ?_⟩
  have s2 := new_same (o := .tup [.ref t1, .non]) n2
  have e2 : (upd H1 t2 (.tup [.ref t1, .non])) t2 = some (.tup [.ref t1, .non]) := upd_same
  generalize upd H1 t2 (.tup [.ref t1, .non]) = H2 at s2 e2 ⊢
  refine ⟨by show 1 ≤ sizeLine; decide, fun t3 n3 => ?_⟩
  have s3 := new_same (o := .lst [.ref t2]) n3
  have e3 : (upd H2 t3 (.lst [.ref t2])) t3 = some (.lst [.ref t2]) := upd_same
  generalize upd H2 t3 (.lst [.ref t2]) = H3 at s3 e3 ⊢
  refine ⟨v, by rw [← e5]; rfl, Nat.zero_le _, fun t4 n4 => ?_⟩
  have s4 := new_same (o := .tup []) n4
  have e4 : (upd H3 t4 (.tup [])) t4 = some (.tup []) := upd_same
  generalize upd H3 t4 (.tup []) = H4 at s4 e4 ⊢
  have s04 := (s1.trans s2).trans (s3.trans s4)
  refine ⟨v, t4, n, toNm nm, dd, g, k, [], rfl, dp_same s04 (dp_same cut_sub hv), td, ty, k60, e4, by decide, fun pr H5 s5 pl5 => ?_⟩
  obtain ⟨ts, ep, lt, ht⟩ := pl5
  refine ⟨t3, pr, _, _, rfl, rfl, s5 _ _ (s4 _ _ e3), ep, Nat.le_of_lt (small1000 (by simp only [List.length_cons, List.length_nil]; omega)), fun t6 n6 => ?_⟩
  have s6 := new_same (o := .lst ([.ref t2] ++ ts)) n6
  have s06 := (s04.trans s5).trans s6
  have g6 := g0.same s06
  have cutT : ∀ {b : Addr} {xs : List V}, (upd H5 t6 (.lst ([.ref t2] ++ ts))) b = some (.tup xs) → Cut (upd H5 t6 (.lst ([.ref t2] ++ ts))) q.d l b = some (.tup xs) := fun {b xs} e => by
    obtain ⟨_, _, _, _, _, ls, cs, ed, el, _⟩ := g6.G.D
    exact cut_at e (ne_of e ed (by intro z; cases z)) (ne_of e el (by intro z; cases z))
  refine kk t6 _ _ g6 (.same s06) (cut_new (g0.same (s04.trans s5)).G.D n6) (by simp) (by simp only [List.length_append, List.length_cons, List.length_nil]; omega) fun t htm => ?_
  rcases List.mem_append.mp htm with z | z
  · rw [List.mem_singleton] at z
    subst z
    exact ⟨t2, t1, [], none, _, rfl, cutT (s6 _ _ (s5 _ _ (s4 _ _ (s3 _ _ e2)))), cutT (s6 _ _ (s5 _ _ (s4 _ _ (s3 _ _ (s2 _ _ e1))))), .nil⟩
  · obtain ⟨a, b, p', w', l', h1, h2, h3, h4, _⟩ := ht t z
    exact ⟨a, b, p', w', l', h1, cutT (s6 _ _ h2), cutT (s6 _ _ h3), h4⟩
/-- place, wanted = .. -/
theorem b3 (G : LawTop3 P w K mg base cN cS cT) (hr : RoomZ f cL A s0) : PS (LZ P w K mg base f cL A outer s0 H0 E) (le3 3) (fun D σ H => ∃ (q : FrM) (n : Int) (p : Addr) (nm : NmS) (l c pl : Addr) (ts : List V) (dd : PyData), σ = q.st ∧ q.v6 = some (.ref pl) ∧ S2 T H n p nm q.d l c ∧ Cut H q.d l pl = some (.lst ts) ∧ 0 < ts.length ∧ ts.length ≤ 61 ∧ (∀ t ∈ ts, PlOk (Cut H q.d l) (toNm nm) dd t) ∧
    ∀ b pp w l' H', S2 T H' n p nm q.d l c → Kc H H' q.d l → Cut H' q.d l b = some (.tup (pp.map V.int)) → Pl (toNm nm) dd pp w l' → D.nx { q with v7 := some (.ref b), v8 := some (optV w) }.st H') := by
  obtain ⟨fP, dP, gP⟩ := G.pick
  refine PS.imp (ps_asg (X := LZ P w K mg base f cL A outer s0 H0 E) (gP.pe (hr.mono (show 3 ≤ 24 by decide)) pass0 (pa_cons (pv 1) (pa_cons (pv 6) pa_nil)) rfl) (pg_tup (by rfl) (pgs_cons (pg_name (i := 7) nd3 rfl (Or.inr rfl)) (pgs_cons (pg_name (i := 8) nd3 rfl (Or.inr rfl)) pgs_nil)))) fun D σ H h => ?_
  obtain ⟨q, n, p, nm, l, c, pl, ts, dd, rfl, e6, g0, ep, l0, l61, hts, k⟩ := h
  have off : pl ≠ q.d ∧ pl ≠ l := by
    unfold Cut at ep
    split at ep
    · cases ep
    · rename_i nn
      exact ⟨fun z => nn (.inl z), fun z => nn (.inr z)⟩
  refine ⟨_, rfl, .ref pl, by rw [← e6]; rfl, q.d, l, c, pl, ts, rfl, cut_sub _ _ ep, off.1, off.2, l0, by omega, g0.G.D, fun i x H1 hx D1 B1 => ?_⟩
  obtain ⟨a, b, pp, w', l', rfl, ea, eb, plc⟩ := (hts x (List.mem_of_getElem? hx)).kp (Kc.but B1)
  refine ⟨a, _, rfl, .inl (.inl (cut_sub _ _ ea)), rfl, _, _, rfl, _, [], rfl, rfl, ?_⟩
  exact k b pp w' l' H1 (g0.but D1 B1) (.but B1) eb plc
/-- bad = _law_odd(..) -/
theorem b4 (G : LawTop3 P w K mg base cN cS cT) (hr : RoomZ f cL A s0) : PS (LZ P w K mg base f cL A outer s0 H0 E) (le3 4) (fun D σ H => ∃ (q : FrM) (n : Int) (p : Addr) (nm : NmS) (l c : Addr) (v : V) (dd : PyData) (g : Str) (k : Nat) (b : Addr) (pp : List Int) (w' : Option Str) (l' : NmL), σ = q.st ∧ q.v3 = some (.int n) ∧ q.v4 = some (.ref p) ∧ q.v5 = some v ∧ q.v7 = some (.ref b) ∧
    S2 T H n p nm q.d l c ∧ Dp K (Cut H q.d l) v dd ∧ TD dd ∧ Typ n (toNm nm) dd g k 5 ∧ Cut H q.d l b = some (.tup (pp.map V.int)) ∧ Pl (toNm nm) dd pp w' l' ∧
    ∀ x bb H', S2 T H' n p nm q.d l c → Kc H H' q.d l → Dp K (Cut H' q.d l) x bb → OD bb → Wrong n l' bb → D.nx { q with v9 := some x }.st H') := by
  obtain ⟨fO, dO, gO⟩ := G.odd
  obtain ⟨fP, dP, gP⟩ := G.piece
  refine PS.imp (ps_set (X := LZ P w K mg base f cL A outer s0 H0 E) (i := 9) nd3 rfl (Or.inl rfl) (gO.pe (hr.mono (show 4 ≤ 24 by decide)) pass0 (pa_cons (pv 1) (pa_cons (pv 3) (pa_cons (pv 4) (pa_cons (gP.pe (hr.mono (show 1 ≤ 24 by decide)) pass0 (pa_cons (pv 5) (pa_cons (pv 7) pa_nil)) rfl) pa_nil)))) rfl)) fun D σ H h => ?_
  obtain ⟨q, n, p, nm, l, c, v, dd, g, k, b, pp, w', l', rfl, e3, e4, e5, e7, g0, hv, td, ty, eb, plc, kk⟩ := h
  obtain ⟨qq, g', k', h', al, ty'⟩ := plc.typ ty
  refine ⟨_, rfl, .int n, by rw [← e3]; rfl, .ref p, by rw [← e4]; rfl, v, by rw [← e5]; rfl, .ref b, by rw [← e7]; rfl, ?_⟩
  refine ⟨Cut H q.d l, v, b, dd, qq, pp, rfl, cut_sub, SqT.of (cut_sub _ _ eb), hv, al, fun v' hv' => ?_⟩
  refine ⟨q.d, l, c, p, v', n, toNm nm, l', qq, rfl, g0.in0, g0.len, hv', td.part al, ty'.form, plc.scope td, fun x bb H1 D1 B1 h1 h2 h3 => ?_⟩
  exact kk x bb H1 (g0.but D1 B1) (.but B1) h1 h2 (wrong_form h3)
end
end Jd
/-! law of k03: a term of another sort; the spoilt term; what is spoilt behind it. -/
namespace Jd
open PySem PySem.Spec PyProof.Rows L2 RZ LamX Lm Dk
theorem Pl.w3 {l : NmL} {d : PyData} {p : List Int} {w : Option Str} {l' : NmL} (h : Pl l d p w l') : ∀ wd, w = some wd → W3 wd := by
  induction h with
  | nil => intro wd e; cases e
  | cons paths hp al t ih => exact ih
  | last paths hp al want w3 => intro wd e; cases e; exact w3
def selC (wi wd : Str) : Bool := (!decide (V.bl (decide (V.str wi = V.str "number")) = V.bl (decide (V.str wd = V.str "num")))) || decide (V.str wd = V.str "box")
/-- the three terms that are of another sort -/
def three : List (Str × Str) := [("number", "num"), ("skip", "do"), ("never", "do")]
theorem sel_tab : ∀ wd ∈ (["num", "do", "box"] : List Str), ∀ e ∈ three, selC e.1 wd = true → decide (e.2 = wd) = false := by decide +kernel
theorem sel_one : ∀ wd ∈ (["num", "do", "box"] : List Str), selC "number" wd = true ∨ (wd = "num" ∧ selC "skip" wd = true) := by decide +kernel
theorem w3_mem {wd : Str} (h : W3 wd) : wd ∈ (["num", "do", "box"] : List Str) := by
  rcases h with rfl | rfl | rfl <;> decide +kernel
theorem w3_wanted {wd s : Str} (h : W3 wd) (ne : decide (s = wd) = false) (ahead : List Str) : isWantedD s wd ahead = false := by
  have e1 : wd ≠ "some" := by rcases h with rfl | rfl | rfl <;> decide +kernel
  have e2 : wd ≠ "alike" := by rcases h with rfl | rfl | rfl <;> decide +kernel
  unfold isWantedD
  rw [if_neg e1, if_neg e2]
  exact beq_false_of_ne (of_decide_eq_false ne)
/-- one of the three that is chosen -/
def Sel (t1 t2 t3 : Addr) (wd : Str) (y : V) : Prop := ∃ (i : Nat) (e : Str × Str), ([.ref t1, .ref t2, .ref t3] : List V)[i]? = some y ∧ three[i]? = some e ∧ selC e.1 wd = true
/-- a term of another sort stands at x -/
def MV (K : PySem.W.Frag) (HC : Hp) (n : Int) (l : NmL) (wd : Str) (x : V) : Prop := ∃ b, Dp K HC x b ∧ OD b ∧ Mis n l wd b
section
variable {P : Program} {w : World} {K : PySem.W.Frag} {mg : Str → Option Value} {base : Heap} {cN cS cT cL f : Addr} {A : Around} {outer : List Env} {s0 : Shared} {H0 : Hp} {E : XK} {T : List (Addr × Str)}
theorem MV.kp {HC HC' : Hp} {n : Int} {l : NmL} {wd : Str} {x : V} (h : MV K HC n l wd x) (k : Kp HC HC') : MV K HC' n l wd x := by
  obtain ⟨b, h1, h2, h3⟩ := h
  exact ⟨b, k.dp h1, h2, h3⟩
/-- if wanted is not None and ..: bad = .. -/
theorem b5 (G : LawTop3 P w K mg base cN cS cT) (hr : RoomZ f cL A s0) : PS (LZ P w K mg base f cL A outer s0 H0 E) (le3 5) (fun D σ H => ∃ (q : FrM) (n : Int) (p : Addr) (nm : NmS) (l c : Addr) (dd : PyData) (pp : List Int) (w' : Option Str) (l' : NmL) (x : V) (bb : PyData), σ = q.st ∧ q.v8 = some (optV w') ∧ q.v9 = some x ∧
    S2 T H n p nm q.d l c ∧ Pl (toNm nm) dd pp w' l' ∧ Dp K (Cut H q.d l) x bb ∧ OD bb ∧ Wrong n l' bb ∧
    ∀ x bb v10 H', S2 T H' n p nm q.d l c → Kc H H' q.d l → Dp K (Cut H' q.d l) x bb → OD bb → BadAt n l' w' bb → (w' = none → Wrong n l' bb) → D.nx { q with v9 := some x, v10 := v10 }.st H') := by
  obtain ⟨fT, dT, gT⟩ := G.take
  obtain ⟨fP, dP, gP⟩ := G.pick
  refine PS.imp (ps_if (X := LZ P w K mg base f cL A outer s0 H0 E) (PW.pt (pw_and (pt_cmpR op_notN (pv 8) pe_non (nomark _)) (pw_and1 (pt_cmpR op_eq (gT.pe (hr.mono (show 2 ≤ 24 by decide)) pass0 (pa_cons (pv 1) (pa_cons pe_int pa_nil)) rfl) pe_int (nomark _)))))
    (pss_cons (ps_set (i := 9) nd3 rfl (Or.inl rfl) (gP.pe (hr.mono (show 3 ≤ 24 by decide)) pass0 (pa_cons (pv 1) (pa_cons
      (pe_lc (own := [("item", 10)]) (g := gName 10) rfl nd3 (pi_list (pe_lst (pa_cons (pe_tup (pa_cons pe_str (pa_cons pe_int pa_nil))) (pa_cons (pe_tup (pa_cons pe_str pa_nil)) (pa_cons (pe_tup (pa_cons pe_str (pa_cons pe_str pa_nil))) pa_nil))))) (blkOk_by (N := lw3N) (sc := defScope sLaw3) (by decide +kernel)) (fun _ _ _ _ _ => pg_name (i := 10) nd3 rfl (Or.inl rfl))
        (fun _ _ _ _ _ => pts_one (PW.pt (pw_or (pt_cmpR op_ne (pe_cmpR op_eq (pe_ix (show IxR _ (rIxT K) from ix_tup) (pv 10) pe_int (fun _ _ => rfl)) pe_str (nomark _)) (pe_cmpR op_eq (pv 8) pe_str (nomark _)) (nomark _)) (pw_or1 (pt_cmpR op_eq (pv 8) pe_str (nomark _)))))) (fun _ _ _ _ _ => pv 10)) pa_nil)) rfl))
    (pss_one (ps_if (pt_cmpR op_eq (pv 8) pe_str (nomark _)) (pss_one (ps_set (i := 9) nd3 rfl (Or.inl rfl) (pe_tup (pa_cons pe_str (pa_cons pe_int pa_nil))))) pss_nil))) pss_nil) fun D σ H h => ?_
  obtain ⟨q, n, p, nm, l, c, dd, pp, w', l', x, bb, rfl, e8, e9, g0, plc, hx, ob, wr, k⟩ := h
  have keep : ∀ H', S2 T H' n p nm q.d l c → Kc H H' q.d l → D.nx q.st H' := fun H' g kc => by
    have z := k x bb q.v10 H' g kc (kc.dp hx) ob (.inl wr) (fun _ => wr)
    rw [show ({ q with v9 := some x, v10 := q.v10 } : FrM) = q by cases q; simp at e9 ⊢; exact e9.symm] at z
    exact z
  refine ⟨optV w', by rw [← e8]; rfl, rfl, _, rfl, ?_⟩
  cases w' with
  | none =>
    refine iteF ?_
    exact iteF (keep H g0 (Kp.refl _))
  | some wd =>
  refine iteT ?_
  have w3 := plc.w3 wd rfl
  have e8' : q.v8 = some (.str wd) := e8
  refine ⟨_, rfl, q.d, l, c, 2, rfl, by decide, by decide, g0.G.D, fun i H1 i0 i2 D1 B1 => ⟨rfl, _, rfl, ?_⟩⟩
  have g1 := g0.but D1 B1
  refine ite2 (fun _ => ?_) (fun _ => keep H1 g1 (.but B1))
  have n0 : (0 : Int) ≤ n - 1 := by have := g0.n2; omega
  have n1 : (1 : Int) ≤ n - 1 := by have := g0.n2; omega
  -- the three terms
  refine ⟨_, rfl, by show 2 ≤ sizeLine; decide, fun t1 m1 => ?_⟩
  have s1 := new_same (o := .tup [.str "number", .int 0]) m1
  have c1 : Cut (upd H1 t1 (.tup [.str "number", .int 0])) q.d l t1 = some (.tup [.str "number", .int 0]) := cut_new D1 m1
  have D2 := D1.same s1
  generalize upd H1 t1 (.tup [.str "number", .int 0]) = H2 at s1 c1 D2 ⊢
  refine ⟨by show 1 ≤ sizeLine; decide, fun t2 m2 => ?_⟩
  have s2 := new_same (o := .tup [.str "skip"]) m2
  have c2 : Cut (upd H2 t2 (.tup [.str "skip"])) q.d l t2 = some (.tup [.str "skip"]) := cut_new D2 m2
  have D3 := D2.same s2
  replace c1 := cut_same s2 _ _ c1
  generalize upd H2 t2 (.tup [.str "skip"]) = H3 at s2 c1 c2 D3 ⊢
  refine ⟨by show 2 ≤ sizeLine; decide, fun t3 m3 => ?_⟩
  have s3 := new_same (o := .tup [.str "never", .str "do"]) m3
  have c3 : Cut (upd H3 t3 (.tup [.str "never", .str "do"])) q.d l t3 = some (.tup [.str "never", .str "do"]) := cut_new D3 m3
  have D4 := D3.same s3
  replace c1 := cut_same s3 _ _ c1
  replace c2 := cut_same s3 _ _ c2
  generalize upd H3 t3 (.tup [.str "never", .str "do"]) = H4 at s3 c1 c2 c3 D4 ⊢
  refine ⟨by show 3 ≤ sizeLine; decide, fun L0 mL => ?_⟩
  have s4 := new_same (o := .lst [.ref t1, .ref t2, .ref t3]) mL
  have e4 : (upd H4 L0 (.lst [.ref t1, .ref t2, .ref t3])) L0 = some (.lst [.ref t1, .ref t2, .ref t3]) := upd_same
  have D5 := D4.same s4
  replace c1 := cut_same s4 _ _ c1
  replace c2 := cut_same s4 _ _ c2
  replace c3 := cut_same s4 _ _ c3
  generalize upd H4 L0 (.lst [.ref t1, .ref t2, .ref t3]) = H5 at s4 e4 c1 c2 c3 D5 ⊢
  have s15 := (s1.trans s2).trans (s3.trans s4)
  refine ⟨L0, rfl, ⟨_, SqL.of e4⟩, fun Dl nD => ?_⟩
  have sD : ∀ {H' : Hp} {o : HO}, Same H5 H' → Same H5 (upd H' Dl o) := fun z b o e => by
    rw [upd_ne (ne_of_none e nD)]
    exact z _ _ e
  have sm := w3_mem w3
  have item : ∀ (i : Nat) (y : V) (H' : Hp), ([.ref t1, .ref t2, .ref t3] : List V)[i]? = some y → Same H5 H' → ∃ (ti : Addr) (e : Str × Str) (ys : List V) (b : PyData), y = .ref ti ∧ three[i]? = some e ∧ SqT K H' ti (.str e.1 :: ys) ∧ Dp K (Cut H' q.d l) y b ∧ OD b ∧ Typ n l' b e.2 1 1 := fun i y H' hy s' => by
    match i, hy with
    | 0, hy =>
      cases hy
      exact ⟨t1, _, _, .tuple [.str "number", .int 0], rfl, rfl, SqT.of (s' _ _ (cut_sub _ _ c1)), .tup (SqT.of (cut_same s' _ _ c1)) (.cons (.str _) (.cons (.int _) .nil)), od_tup (by show 2 ≤ 1000; decide) (od_cons (od_str (by decide +kernel)) (od_cons (od_leaf (fun ds e => by cases e) (fun x e => by cases e)) od_nil)), .number (h := 0) (Int.le_refl 0) n0⟩
    | 1, hy =>
      cases hy
      exact ⟨t2, _, _, .tuple [.str "skip"], rfl, rfl, SqT.of (s' _ _ (cut_sub _ _ c2)), .tup (SqT.of (cut_same s' _ _ c2)) (.cons (.str _) .nil), od_tup (by show 1 ≤ 1000; decide) (od_cons (od_str (by decide +kernel)) od_nil), .skip (h := 0)⟩
    | 2, hy =>
      cases hy
      exact ⟨t3, _, _, .tuple [.str "never", .str "do"], rfl, rfl, SqT.of (s' _ _ (cut_sub _ _ c3)), .tup (SqT.of (cut_same s' _ _ c3)) (.cons (.str _) (.cons (.str _) .nil)), od_tup (by show 2 ≤ 1000; decide) (od_cons (od_str (by decide +kernel)) (od_cons (od_str (by decide +kernel)) od_nil)), .never (h := 0) (by decide +kernel)⟩
    | i + 3, hy => simp at hy
  refine lc_list (K := K) (a := L0) (xs := [.ref t1, .ref t2, .ref t3]) (fun i H' => Same H5 H' ∧ ∃ acc : List V, H' Dl = some (.lst acc) ∧ acc.length ≤ i ∧ (∀ y ∈ acc, Sel t1 t2 t3 wd y) ∧ (1 ≤ i → selC "number" wd = true → acc ≠ []) ∧ (2 ≤ i → selC "skip" wd = true → acc ≠ []))
    ⟨sD (Same.refl _), [], upd_same, Nat.le_refl _, by simp, fun z => absurd z (by decide), fun z => absurd z (by decide)⟩ (fun i H' _ ⟨z, _⟩ => SqL.of (z _ _ e4)) ?_ ?_
  · rintro i y H6 hy ⟨z, acc, eA, lA, mA, f1, f2⟩
    obtain ⟨ti, e, ys, b, rfl, et, sq, hb, ob', ty⟩ := item i y H6 hy z
    refine ⟨rfl, ?_⟩
    have hi : i < 3 := (List.getElem?_eq_some_iff.mp hy).1
    have skip : selC e.1 wd = false → (1 ≤ i + 1 → selC "number" wd = true → acc ≠ []) ∧ (2 ≤ i + 1 → selC "skip" wd = true → acc ≠ []) := fun sf => by
      match i, et with
      | 0, et => cases et; exact ⟨fun _ s => absurd (sf.symm.trans s) Bool.false_ne_true, fun z => absurd z (by decide)⟩
      | 1, et => cases et; exact ⟨fun _ => f1 (Nat.le_refl _), fun _ s => absurd (sf.symm.trans s) Bool.false_ne_true⟩
      | i + 2, et => exact ⟨fun _ => f1 (by omega), fun _ => f2 (by omega)⟩
    have take_ : selC e.1 wd = true → Same H5 (upd H6 Dl (.lst (acc ++ [.ref ti]))) ∧ ∃ acc' : List V, (upd H6 Dl (.lst (acc ++ [.ref ti]))) Dl = some (.lst acc') ∧ acc'.length ≤ i + 1 ∧ (∀ y ∈ acc', Sel t1 t2 t3 wd y) ∧ (1 ≤ i + 1 → selC "number" wd = true → acc' ≠ []) ∧ (2 ≤ i + 1 → selC "skip" wd = true → acc' ≠ []) := fun st =>
      ⟨sD z, _, upd_same, by rw [List.length_append, List.length_singleton]; omega, fun y hy' => by
        rcases List.mem_append.mp hy' with h | h
        · exact mA y h
        · rw [List.mem_singleton] at h
          rw [h]
          exact ⟨i, e, hy, et, st⟩, fun _ _ => by simp, fun _ _ => by simp⟩
    have small : acc.length < sizeLine := small1000 (by omega)
    refine ⟨_, rfl, ti, _, 0, _, rfl, rfl, sq, atI_nat (j := 0) rfl, rfl, ?_⟩
    refine ⟨.str wd, by rw [← e8']; rfl, rfl, rfl, _, rfl, ?_⟩
    by_cases z1 : (!decide (V.bl (decide (V.str e.1 = V.str "number")) = V.bl (decide (V.str wd = V.str "num")))) = true
    · have st : selC e.1 wd = true := by unfold selC; rw [z1]; rfl
      rw [z1]
      refine iteT ?_
      refine iteT ?_
      exact ⟨_, rfl, acc, eA, small, take_ st⟩
    · have z1' : (!decide (V.bl (decide (V.str e.1 = V.str "number")) = V.bl (decide (V.str wd = V.str "num")))) = false := by simpa using z1
      rw [z1']
      refine iteF ?_
      refine ⟨.str wd, by rw [← e8']; rfl, rfl, _, rfl, ?_⟩
      by_cases z2 : decide (V.str wd = V.str "box") = true
      · have st : selC e.1 wd = true := by unfold selC; rw [z2, Bool.or_true]
        rw [z2]
        refine iteT ?_
        exact ⟨_, rfl, acc, eA, small, take_ st⟩
      · have z2' : decide (V.str wd = V.str "box") = false := by simpa using z2
        have sf : selC e.1 wd = false := by unfold selC; rw [z1', z2']; rfl
        rw [z2']
        refine iteF ?_
        exact ⟨z, acc, eA, by omega, mA, skip sf⟩
  · rintro H6 ⟨z, acc, eA, lA, mA, f1, f2⟩
    have lA3 : acc.length ≤ 3 := lA
    have nE : acc ≠ [] := by
      rcases sel_one wd sm with h | ⟨_, h⟩
      · exact f1 (by show 1 ≤ 3; decide) h
      · exact f2 (by show 2 ≤ 3; decide) h
    have D6 := D5.same z
    have dl := new_dl D5 nD
    refine ⟨q.d, l, c, Dl, acc, rfl, eA, dl.1, dl.2.1, List.length_pos_iff.mpr nE, by omega, D6, fun i y H7 hy D7 B7 => ?_⟩
    obtain ⟨i, e, hi, et, st⟩ := mA y (List.mem_of_getElem? hy)
    obtain ⟨ti, e', ys, b, rfl, et', sq, hb, ob', ty⟩ := item i y H6 hi z
    rw [et] at et'
    cases et'
    have mis : Mis n l' wd b := mis_typ ty (w3_wanted w3 (sel_tab wd sm e (List.mem_of_getElem? et) st))
    have hb7 := dp_same (cut_but B7) hb
    have g7 := (g1.same (s15.trans z)).but D7 B7
    have kc7 : Kc H H7 q.d l := ((Kc.but B1).trans (Kc.same (s15.trans z))).trans (Kc.but B7)
    -- if wanted == "do"
    refine ⟨.str wd, by rw [← e8']; rfl, rfl, _, rfl, ?_⟩
    refine ite2 (fun zd => ?_) (fun _ => ?_)
    · have ed : wd = "do" := by
        have := of_decide_eq_true zd
        exact V.str.inj this
      subst ed
      refine ⟨by show 2 ≤ sizeLine; decide, fun t9 m9 => ?_⟩
      have s9 := new_same (o := .tup [.str "number", .int 1]) m9
      refine k (.ref t9) (.tuple [.str "number", .int 1]) q.v10 _ (g7.same s9) (kc7.trans (Kc.same s9)) (.tup (SqT.of (cut_new D7 m9)) (.cons (.str _) (.cons (.int _) .nil))) (od_tup (by show 2 ≤ 1000; decide) (od_cons (od_str (by decide +kernel)) (od_cons (od_leaf (fun ds e => by cases e) (fun x e => by cases e)) od_nil)))
        (.inr ⟨_, rfl, mis_typ (g := "num") (.number (h := 0) (by decide) n1) (w3_wanted w3 (by decide +kernel))⟩) (fun e => by cases e)
    · exact k (.ref ti) b q.v10 H7 g7 kc7 hb7 ob' (.inr ⟨wd, rfl, mis⟩) (fun e => by cases e)
end
end Jd
/-! law of k03: the spoilt term; what is spoilt behind it. -/
namespace Jd
open PySem PySem.Spec PyProof.Rows L2 RZ LamX Lm Dk
theorem shaped_tups (qs : List (List Int)) : SeqAt.shaped (.list (qs.map fun q => .tuple (q.map PyData.int))) = true := by
  have i1 : ∀ p : List Int, PyData.depthAll (p.map PyData.int) = 0 := fun p => by
    induction p with
    | nil => simp [PyData.depthAll]
    | cons i p ih => rw [List.map_cons, PyData.depthAll, ih]; simp [PyData.depth]
  have i2 : ∀ p : List Int, PyData.canLayAll0 (p.map PyData.int) = true := fun p => by
    induction p with
    | nil => simp [PyData.canLayAll0]
    | cons i p ih => rw [List.map_cons, PyData.canLayAll0, ih]; simp [PyData.canLay0]
  have h1 : PyData.depthAll (qs.map fun q => .tuple (q.map PyData.int)) ≤ 1 := by
    induction qs with
    | nil => simp [PyData.depthAll]
    | cons q qs ih =>
      rw [List.map_cons, PyData.depthAll]
      simp only [PyData.depth, i1]
      omega
  have h2 : PyData.canLayAll0 (qs.map fun q => .tuple (q.map PyData.int)) = true := by
    induction qs with
    | nil => simp [PyData.canLayAll0]
    | cons q qs ih =>
      rw [List.map_cons, PyData.canLayAll0, ih (by rw [List.map_cons, PyData.depthAll] at h1; omega)]
      simp [PyData.canLay0, i2]
  unfold SeqAt.shaped
  simp only [PyData.canLay0, PyData.depth, h2, Bool.true_and]
  simp
  omega
theorem eqv_lnil (ds : List PyData) : PyData.eqv (.list ds) (.list []) = decide (ds = []) := by
  cases ds with
  | nil => simp [PyData.eqv, PyData.eqvAll]
  | cons a r => simp [PyData.eqv, PyData.eqvAll]
section
variable {K : PySem.W.Frag} {H : Hp}
theorem sl_take {b : Addr} {q : List Int} {m : Nat} {Q : VK} (hq : SqT K H b (q.map V.int)) (k : ∀ r H', Same H H' → SqT K H' r ((q.take m).map V.int) → Q (.ref r) H') : rSlA K (.ref b) none (some (m : Int)) H Q := by
  refine ⟨b, _, rfl, hq, fun z => ?_, fun _ p np => ?_⟩
  · have y := z.2
    rw [HT.sIx_nat, List.length_map] at y
    refine k b H (Same.refl _) ?_
    rw [List.take_of_length_le (by omega)]
    exact hq
  · rw [cut_take]
    exact k p _ (new_same np) (by rw [List.map_take]; exact SqT.of upd_same)
theorem lts_dp {HC : Hp} {nm : NmL} {dd : PyData} {pp : List Int} (s : Same HC H) : ∀ acc : List V, (∀ t ∈ acc, LtOk HC nm dd pp t) → ∃ qs : List (List Int), DpAll K H acc (qs.map fun q => .tuple (q.map PyData.int)) ∧ qs.length = acc.length
  | [], _ => ⟨[], .nil, rfl⟩
  | t :: acc, h => by
    obtain ⟨qs, h1, h2⟩ := lts_dp s acc fun y hy => h y (List.mem_cons_of_mem _ hy)
    obtain ⟨b, q, w, l', rfl, eb, _⟩ := h t List.mem_cons_self
    exact ⟨q :: qs, .cons (.tup (SqT.of (s _ _ eb)) (dps_ints' q)) h1, by simp [h2]⟩
end
section
variable {P : Program} {w : World} {K : PySem.W.Frag} {mg : Str → Option Value} {base : Heap} {cN cS cT cL f : Addr} {A : Around} {outer : List Env} {s0 : Shared} {H0 : Hp} {E : XK} {T : List (Addr × Str)}
/-- whole = _law_with(term_here, place, bad) -/
theorem b6 (G : LawTop3 P w K mg base cN cS cT) (hr : RoomZ f cL A s0) : PS (LZ P w K mg base f cL A outer s0 H0 E) (le3 6) (fun D σ H => ∃ (q : FrM) (n : Int) (p : Addr) (nm : NmS) (l c : Addr) (v : V) (dd : PyData) (g : Str) (k : Nat) (b : Addr) (pp : List Int) (w' : Option Str) (l' : NmL) (x : V) (bb : PyData), σ = q.st ∧ q.v5 = some v ∧ q.v7 = some (.ref b) ∧ q.v9 = some x ∧
    S2 T H n p nm q.d l c ∧ Dp K (Cut H q.d l) v dd ∧ TD dd ∧ Typ n (toNm nm) dd g k 5 ∧ Cut H q.d l b = some (.tup (pp.map V.int)) ∧ Pl (toNm nm) dd pp w' l' ∧ Dp K (Cut H q.d l) x bb ∧
    ∀ y H', S2 T H' n p nm q.d l c → Kc H H' q.d l → Dp K (Cut H' q.d l) y (withD pp dd bb) → D.nx { q with v11 := some y }.st H') := by
  obtain ⟨fW, dW, gW⟩ := G.with_
  refine PS.imp (ps_set (X := LZ P w K mg base f cL A outer s0 H0 E) (i := 11) nd3 rfl (Or.inr rfl) (gW.pe (hr.mono (show 14 ≤ 24 by decide)) pass0 (pa_cons (pv 5) (pa_cons (pv 7) (pa_cons (pv 9) pa_nil))) rfl)) fun D σ H h => ?_
  obtain ⟨q, n, p, nm, l, c, v, dd, g, k, b, pp, w', l', x, bb, rfl, e5, e7, e9, g0, hv, td, ty, eb, plc, hx, kk⟩ := h
  have ln := plc.len ty
  obtain ⟨y, al⟩ := plc.along
  refine ⟨v, by rw [← e5]; rfl, .ref b, by rw [← e7]; rfl, x, by rw [← e9]; rfl, ?_⟩
  exact ⟨q.d, l, c, v, x, b, dd, bb, y, pp, rfl, g0.G.D, SqT.of (cut_sub _ _ eb), by omega, by omega, hv, td.od, al, hx, fun v' H' s h' => kk v' H' (g0.same s) (.same s) h'⟩
/-- later = [..] -/
theorem b7 (G : LawTop3 P w K mg base cN cS cT) (hr : RoomZ f cL A s0) : PS (LZ P w K mg base f cL A outer s0 H0 E) (le3 7) (fun D σ H => ∃ (q : FrM) (n : Int) (p : Addr) (nm : NmS) (l c pl : Addr) (ts : List V) (dd : PyData) (b : Addr) (pp : List Int), σ = q.st ∧ q.v6 = some (.ref pl) ∧ q.v7 = some (.ref b) ∧
    S2 T H n p nm q.d l c ∧ Cut H q.d l pl = some (.lst ts) ∧ ts.length ≤ 61 ∧ (∀ t ∈ ts, PlOk (Cut H q.d l) (toNm nm) dd t) ∧ Cut H q.d l b = some (.tup (pp.map V.int)) ∧
    ∀ lt acc H', S2 T H' n p nm q.d l c → Kc H H' q.d l → Cut H' q.d l lt = some (.lst acc) → acc.length ≤ 61 → (∀ t ∈ acc, LtOk (Cut H' q.d l) (toNm nm) dd pp t) → D.nx { q with v12 := some (.ref lt) }.st H') := by
  have hu : (LZ P w K mg base f cL A outer s0 H0 E).A.units < cLine := by
    have := hr.un
    show (A.deeper (envOfC "law" (defScope sLaw3) s0.heap.objs.size f (.ref cL))).units < cLine
    omega
  refine PS.imp (ps_setLc (X := LZ P w K mg base f cL A outer s0 H0 E) (i := 12) (own := [("item", 10)]) (g := gName 10) rfl nd3 rfl rfl (sw_true rfl rfl rfl (by decide +kernel)) (pi_list (pv 6)) (blkOk_by (N := lw3N) (sc := defScope sLaw3) (by decide +kernel)) (fun _ _ _ _ _ => pg_name (i := 10) nd3 rfl (Or.inl rfl))
    (fun _ _ _ _ _ => pts_one (PW.pt (pw_and (pt_cmpR (show OpR _ _ (rGtT K) from op_gtT hu) (pe_ix (show IxR _ (rIxT K) from ix_tup) (pv 10) pe_int (fun _ _ => rfl)) (pv 7) (nomark _))
      (pw_and1 (pt_cmpR (show OpR _ _ (rNeD K) from op_neD hr.units) (pe_slice (show SlR _ (rSlA K) from sl_tupA) (pe_ix (show IxR _ (rIxT K) from ix_tup) (pv 10) pe_int (fun _ _ => rfl)) po_none (po_some (pe_callB (show CallR _ (.builtin "len") (fun xs H Q => ∃ p ys, xs = [V.ref p] ∧ (SqL K H p ys ∨ SqT K H p ys) ∧ Q (.int ys.length) H) from call_len_seq) (by rfl) G.len PySem.boot_len (pa_cons (pv 7) pa_nil)))) (pv 7) (nomark _))))))
    (fun _ _ _ _ _ => pe_ix (show IxR _ (rIxT K) from ix_tup) (pv 10) pe_int (fun _ _ => rfl))) fun D σ H h => ?_
  obtain ⟨q, n, p, nm, l, c, pl, ts, dd, b, pp, rfl, e6, e7, g0, ep, l61, hts, eb, k⟩ := h
  refine ⟨.ref pl, by rw [← e6]; rfl, pl, rfl, ⟨_, SqL.of (cut_sub _ _ ep)⟩, fun Dl nD => ?_⟩
  have sD : ∀ {H' : Hp} {o : HO}, Same H H' → Same H (upd H' Dl o) := fun z b o e => by
    rw [upd_ne (ne_of_none e nD)]
    exact z _ _ e
  have dl := new_dl g0.G.D nD
  refine lc_list (K := K) (a := pl) (xs := ts) (fun i H' => Same H H' ∧ ∃ acc : List V, H' Dl = some (.lst acc) ∧ acc.length ≤ i ∧ ∀ t ∈ acc, LtOk (Cut H q.d l) (toNm nm) dd pp t) ⟨sD (Same.refl _), [], upd_same, Nat.le_refl _, by simp⟩ (fun i H' _ ⟨z, _⟩ => SqL.of (z _ _ (cut_sub _ _ ep))) ?_ ?_
  · rintro i t H6 ht ⟨z, acc, eA, lA, mA⟩
    have hi := (List.getElem?_eq_some_iff.mp ht).1
    obtain ⟨a, b', q', w', l', rfl, ea, eb', plc⟩ := hts t (List.mem_of_getElem? ht)
    have ea6 : ∀ {H7 : Hp}, Same H6 H7 → SqT K H7 a [.ref b', optV w'] := fun s => SqT.of (s _ _ (z _ _ (cut_sub _ _ ea)))
    have eb6 : ∀ {H7 : Hp}, Same H6 H7 → SqT K H7 b' (q'.map V.int) := fun s => SqT.of (s _ _ (z _ _ (cut_sub _ _ eb')))
    have ebp : ∀ {H7 : Hp}, Same H6 H7 → SqT K H7 b (pp.map V.int) := fun s => SqT.of (s _ _ (z _ _ (cut_sub _ _ eb)))
    refine ⟨rfl, ?_⟩
    refine ⟨_, rfl, a, _, 0, _, rfl, rfl, ea6 (Same.refl _), atI_nat (j := 0) rfl, .ref b, by rw [← e7]; rfl, b', b, q', pp, rfl, rfl, eb6 (Same.refl _), ebp (Same.refl _), _, rfl, ?_⟩
    refine ite2 (fun hg => ?_) (fun _ => ⟨z, acc, eA, by omega, mA⟩)
    refine ⟨_, rfl, a, _, 0, _, rfl, rfl, ea6 (Same.refl _), atI_nat (j := 0) rfl, .ref b, by rw [← e7]; rfl, b, _, rfl, .inr (ebp (Same.refl _)), _, rfl, ?_⟩
    rw [List.length_map]
    refine sl_take (eb6 (Same.refl _)) fun r H7 s7 hr7 => ?_
    refine ⟨.ref b, by rw [← e7]; rfl, .tuple ((q'.take pp.length).map PyData.int), .tuple (pp.map PyData.int), .tup hr7 (dps_ints' _), .tup (ebp s7) (dps_ints' _), shaped_ints _, shaped_ints _, _, rfl, ?_⟩
    rw [eqv_tints]
    have eA7 := s7 _ _ eA
    have z7 := z.trans s7
    refine ite2 (fun hn => ?_) (fun _ => ⟨z7, acc, eA7, by omega, mA⟩)
    have hne : q'.take pp.length ≠ pp := by simpa using hn
    refine ⟨_, rfl, a, _, 0, _, rfl, rfl, ea6 s7, atI_nat (j := 0) rfl, acc, eA7, small1000 (by omega), sD z7, _, upd_same, by rw [List.length_append, List.length_singleton]; omega, fun y hy => ?_⟩
    rcases List.mem_append.mp hy with h | h
    · exact mA y h
    · rw [List.mem_singleton] at h
      rw [h]
      exact ⟨b', q', w', l', rfl, eb', plc, hg, hne⟩
  · rintro H6 ⟨z, acc, eA, lA, mA⟩
    exact k Dl acc H6 (g0.same z) (.same z) (cut_at eA dl.1 dl.2.1) (by omega) fun t ht => (mA t ht).kp (Kc.same z)
/-- if later != [] and ..: whole = .. -/
theorem b8 (G : LawTop3 P w K mg base cN cS cT) (hr : RoomZ f cL A s0) : PS (LZ P w K mg base f cL A outer s0 H0 E) (le3 8) (fun D σ H => ∃ (q : FrM) (n : Int) (p : Addr) (nm : NmS) (l c : Addr) (dd : PyData) (g : Str) (k : Nat) (b : Addr) (pp : List Int) (w' : Option Str) (l' : NmL) (bb : PyData) (y : V) (lt : Addr) (acc : List V), σ = q.st ∧ q.v7 = some (.ref b) ∧ q.v11 = some y ∧ q.v12 = some (.ref lt) ∧
    S2 T H n p nm q.d l c ∧ TD dd ∧ Typ n (toNm nm) dd g k 5 ∧ k ≤ 60 ∧ Cut H q.d l b = some (.tup (pp.map V.int)) ∧ Pl (toNm nm) dd pp w' l' ∧ OD bb ∧ BadAt n l' w' bb ∧ (w' = none → Wrong n l' bb) ∧ Dp K (Cut H q.d l) y (withD pp dd bb) ∧ Cut H q.d l lt = some (.lst acc) ∧ acc.length ≤ 61 ∧ (∀ t ∈ acc, LtOk (Cut H q.d l) (toNm nm) dd pp t) ∧
    ∀ y e H', S2 T H' n p nm q.d l c → Kc H H' q.d l → Dp K (Cut H' q.d l) y e → OD e → sortM n 12 (toNm nm) e [] 0 = .error pp → D.nx { q with v11 := some y }.st H') := by
  obtain ⟨fW, dW, gW⟩ := G.with_
  obtain ⟨fT, dT, gT⟩ := G.take
  obtain ⟨fP, dP, gP⟩ := G.pick
  refine PS.imp (ps_if (X := LZ P w K mg base f cL A outer s0 H0 E) (PW.pt (pw_and (pt_cmpR (op_neD hr.units) (pv 12) (pe_lst pa_nil) (nomark _)) (pw_and (pt_cmpR (op_neD hr.units) (pv 7) (pe_tup pa_nil) (nomark _)) (pw_and1 (pt_cmpR op_eq (gT.pe (hr.mono (show 2 ≤ 24 by decide)) pass0 (pa_cons (pv 1) (pa_cons pe_int pa_nil)) rfl) pe_int (nomark _))))))
    (pss_one (ps_set (i := 11) nd3 rfl (Or.inr rfl) (gW.pe (hr.mono (show 14 ≤ 24 by decide)) pass0 (pa_cons (pv 11) (pa_cons (pe_ix ix_list (pv 12) (pe_un un_neg pe_int) (fun _ _ => rfl)) (pa_cons (gP.pe (hr.mono (show 3 ≤ 24 by decide)) pass0 (pa_cons (pv 1) (pa_cons (pe_lst (pa_cons pe_non (pa_cons pe_int (pa_cons (pe_tup (pa_cons pe_str pa_nil)) pa_nil)))) pa_nil)) rfl) pa_nil))) rfl))) pss_nil) fun D σ H h => ?_
  obtain ⟨q, n, p, nm, l, c, dd, g, k, b, pp, w', l', bb, y, lt, acc, rfl, e7, e11, e12, g0, td, ty, k60, eb, plc, ob, bad, hw, hy, el, l61, hts, kk⟩ := h
  obtain ⟨m, hm, sp, spl⟩ := spoilt ty plc bad hw
  obtain ⟨y0, al⟩ := plc.along
  have od1 : OD (withD pp dd bb) := td.od.with ob al
  have err1 : sortM n 12 (toNm nm) (withD pp dd bb) [] 0 = .error pp := by
    have z := sp.err 12 [] 0 (by decide) (by omega)
    rw [List.nil_append] at z
    exact z
  have keep : ∀ H', S2 T H' n p nm q.d l c → Kc H H' q.d l → D.nx q.st H' := fun H' g' kc => by
    have z := kk y _ H' g' kc (kc.dp hy) od1 err1
    rw [show ({ q with v11 := some y } : FrM) = q by cases q; simp at e11 ⊢; exact e11.symm] at z
    exact z
  refine ⟨.ref lt, by rw [← e12]; rfl, Nat.zero_le _, fun u nu => ?_⟩
  have su := new_same (o := .lst []) nu
  have eu : (upd H u (.lst [])) u = some (.lst []) := upd_same
  generalize upd H u (.lst []) = H1 at su eu ⊢
  obtain ⟨qs, hqs, lqs⟩ := lts_dp (K := K) (H := H1) (cut_sub.trans su) acc hts
  have dq : Dp K H1 (.ref lt) (.list (qs.map fun q => .tuple (q.map PyData.int))) := .lst (SqL.of (su _ _ (cut_sub _ _ el))) hqs
  refine ⟨_, PyData.list [], dq, .lst (SqL.of eu) .nil, shaped_tups qs, by decide +kernel, _, rfl, ?_⟩
  rw [eqv_lnil]
  refine ite2 (fun hne => ?_) (fun _ => keep H1 (g0.same su) (.same su))
  have accne : acc ≠ [] := fun z => by
    subst z
    have : qs = [] := List.length_eq_zero_iff.mp lqs
    subst this
    simp at hne
  refine ⟨.ref b, by rw [← e7]; rfl, Nat.zero_le _, fun u2 nu2 => ?_⟩
  have s2 := new_same (o := .tup []) nu2
  have e2 : (upd H1 u2 (.tup [])) u2 = some (.tup []) := upd_same
  generalize upd H1 u2 (.tup []) = H2 at s2 e2 ⊢
  have s02 := su.trans s2
  refine ⟨.tuple (pp.map PyData.int), .tuple [], .tup (SqT.of (s02 _ _ (cut_sub _ _ eb))) (dps_ints' _), .tup (SqT.of e2) .nil, shaped_ints _, by decide +kernel, _, rfl, ?_⟩
  have g2 := g0.same s02
  refine ite2 (fun _ => ?_) (fun _ => keep H2 g2 (.same s02))
  refine ⟨_, rfl, q.d, l, c, 2, rfl, by show (0:Int) < 2; decide, by decide, g2.G.D, fun i H3 i0 i2 D3 B3 => ⟨rfl, _, rfl, ?_⟩⟩
  have g3 := g2.but D3 B3
  have kc3 : Kc H H3 q.d l := (Kc.same s02).trans (Kc.but B3)
  refine ite2 (fun _ => ?_) (fun _ => keep H3 g3 kc3)
  -- whole = _law_with(whole, later[-1], ..)
  obtain ⟨ac, z, eac⟩ : ∃ ac z, acc = ac ++ [z] := by
    rcases List.eq_nil_or_concat acc with h | ⟨ac, z, h⟩
    · exact absurd h accne
    · exact ⟨ac, z, by rw [h, List.concat_eq_append]⟩
  subst eac
  obtain ⟨bq, q2, w2, l2, rfl, ebq, plq, beh⟩ := hts z (List.mem_append_right _ (List.mem_singleton.mpr rfl))
  refine ⟨y, by rw [← e11]; rfl, .ref lt, by rw [← e12]; rfl, _, rfl, lt, _, -1, .ref bq, rfl, rfl, SqL.of (cut_sub _ _ (lst_kc kc3 el)), atI_last _ _, _, rfl, ?_⟩
  refine ⟨by show 1 ≤ sizeLine; decide, fun t4 m4 => ?_⟩
  have s4 := new_same (o := .tup [.str "none"]) m4
  have c4 : Cut (upd H3 t4 (.tup [.str "none"])) q.d l t4 = some (.tup [.str "none"]) := cut_new D3 m4
  have D4 := D3.same s4
  generalize upd H3 t4 (.tup [.str "none"]) = H4 at s4 c4 D4 ⊢
  refine ⟨by show 3 ≤ sizeLine; decide, fun t5 m5 => ?_⟩
  have s5 := new_same (o := .lst [.non, .int 5, .ref t4]) m5
  have e5 : (upd H4 t5 (.lst [.non, .int 5, .ref t4])) t5 = some (.lst [.non, .int 5, .ref t4]) := upd_same
  have n5 := new_dl D4 m5
  have D5 := D4.same s5
  replace c4 := cut_same s5 _ _ c4
  generalize upd H4 t5 (.lst [.non, .int 5, .ref t4]) = H5 at s5 e5 c4 D5 ⊢
  refine ⟨q.d, l, c, t5, _, rfl, e5, n5.1, n5.2.1, (by show (0:Nat) < 3; decide), (by show (3:Nat) < 1000; decide), D5, fun j x H6 hx D6 B6 => ?_⟩
  have g6 := (g3.same (s4.trans s5)).but D6 B6
  have kc6 : Kc H H6 q.d l := (kc3.trans (Kc.same (s4.trans s5))).trans (Kc.but B6)
  have hxd : ∃ xd, Dp K (Cut H6 q.d l) x xd ∧ OD xd := by
    match j, hx with
    | 0, hx => cases hx; exact ⟨.none, .non, od_leaf (fun ds e => by cases e) (fun x e => by cases e)⟩
    | 1, hx => cases hx; exact ⟨.int 5, .int 5, od_leaf (fun ds e => by cases e) (fun x e => by cases e)⟩
    | 2, hx => cases hx; exact ⟨.tuple [.str "none"], .tup (SqT.of (cut_but B6 _ _ c4)) (.cons (.str _) .nil), od_tup (by show 1 ≤ 1000; decide) (od_cons (od_str (by decide +kernel)) od_nil)⟩
    | j + 3, hx => simp at hx
  obtain ⟨xd, hxd, oxd⟩ := hxd
  obtain ⟨yq, alq⟩ := plq.along
  obtain ⟨y', al'⟩ := along_other (b := bb) alq ⟨y0, al⟩ beh.2
  have lnq := plq.len ty
  refine ⟨q.d, l, c, y, x, bq, withD pp dd bb, xd, y', q2, rfl, D6, SqT.of (cut_sub _ _ (tup_kc kc6 ebq)), by omega, by omega, kc6.dp hy, od1, al', hxd, fun v' H7 s7 h7 => ?_⟩
  refine kk v' _ H7 (g6.same s7) (kc6.trans (Kc.same s7)) h7 (od1.with oxd al') ?_
  have zz := (spl q2 w2 l2 xd plq beh).err 12 [] 0 (by decide) (by omega)
  rw [List.nil_append] at zz
  exact zz
end
end Jd
/-! law of k03: the errors. -/
namespace Jd
open PySem PySem.Spec PyProof.Rows L2 RZ LamX Lm Dk
def lamSc : Expr → Scope
  | .Lambda _ _ s _ => s
  | _ => ⟨.function, [], false, false, []⟩
abbrev qL : Str := ("law" : Str) ++ ".<locals>." ++ "<lambda>"
abbrev TT1 (pT : Addr) : List (Addr × Str) := [(pT, qL)]
/-- the caught errors, and law's own code object -/
structure LawErr3 (P : Program) (w : World) (K : PySem.W.Frag) (mg : Str → Option Value) (base : Heap) (cT cPE cL pT : Addr) : Prop where
  caught : ∃ f fd, Fun K "_law_caught" "_law_caught" sCaught f fd ∧ mg "_law_caught" = some (.ref f)
  mP : mg "PlayError" = some (.ref cPE)
  mT : mg "BadTerm" = some (.ref cT)
  xT : PySem.W.exmOne K (.ref cT) (.ref cPE) = some true
  eT : ExcC K cT
  kT : PySem.W.kitOne K (.ref cT) (.ref cT) = some true
  fT : PySem.W.findIn K (.ref cT) "at" = some none
  tb : TabB base mg cL pT
def ErrAt (K : PySem.W.Frag) (H : Hp) (a cT : Addr) (p : List Int) : Prop := ∃ x q' : Addr, H a = some (ErrO (.ref cT) (some x) a) ∧ H x = some (.xd [(("at" : Str), .ref q')]) ∧ SqT K H q' (p.map V.int)
section
variable {P : Program} {w : World} {K : PySem.W.Frag} {mg : Str → Option Value} {base : Heap} {cN cS cT cPE cL pT f : Addr} {A : Around} {outer : List Env} {s0 : Shared} {H0 : Hp} {E : XK}
theorem ErrAt.same {H H' : Hp} {a : Addr} {p : List Int} (h : ErrAt K H a cT p) (s : Same H H') : ErrAt K H' a cT p := by
  obtain ⟨x, q', h1, h2, h3⟩ := h
  exact ⟨x, q', s _ _ h1, s _ _ h2, Kp.sqT (.of s) h3⟩
theorem passL {X : Cx} {A : Around} {outer : List Env} {s : Shared} {H : Hp} {E : XK} {sc : Scope} {f c' : Addr} : Passes (L2.CX X.prog X.w) (lamCx X A outer s H E sc f c') E := passes_call (X := lamCx X A outer s H E sc f c') (takes_of rfl rfl rfl rfl) (fun _ _ _ _ h => h)
/-- caught = _law_caught(lambda: sort_of(size, names_here, whole)) -/
theorem b9 (G : LawTop3 P w K mg base cN cS cT) (L : LawErr3 P w K mg base cT cPE cL pT) (hr : RoomZ f cL A s0) : PS (LZ P w K mg base f cL A outer s0 H0 E) (le3 9) (fun D σ H => ∃ (q : FrM) (n : Int) (p : Addr) (nm : NmS) (l c : Addr) (y : V) (e : PyData) (pp : List Int), σ = q.st ∧ q.v3 = some (.int n) ∧ q.v4 = some (.ref p) ∧ q.v11 = some y ∧ S2 (TT1 pT) H n p nm q.d l c ∧ Dp K (Cut H q.d l) y e ∧ OD e ∧ sortM n 12 (toNm nm) e [] 0 = .error pp ∧
    ∀ a H', S2 (TT1 pT) H' n p nm q.d l c → Kc H H' q.d l → ErrAt K H' a cT pp → D.nx { q with v13 := some (.ref a) }.st H') := by
  obtain ⟨fI, dI, gI⟩ := G.sortOf
  obtain ⟨fC, dC, FC, mC⟩ := L.caught
  have bC : Binds K dC ["work"] [] := FC.binds fun _ _ _ _ _ _ us hl => match us, hl with | [_], _ => rfl
  obtain ⟨oc, od, kV, doc, pm, an, cdv, ct, osl, rfl, lk, hcd⟩ := FC.ex
  have hm : ∀ p ∈ TT1 pT, p.1 = pT → p.2 = (LZ P w K mg base f cL A outer s0 H0 E).env.qual ++ "<lambda>" := fun p hp _ => by
    rw [List.mem_singleton] at hp
    rw [hp]
    rfl
  refine PS.imp (ps_set (X := LZ P w K mg base f cL A outer s0 H0 E) (i := 13) nd3 rfl (Or.inl rfl) (pe_lamcall (X := LZ P w K mg base f cL A outer s0 H0 E) (T := TT1 pT) (k := 20) rfl mC FC.kp lk hcd bC scCaught rfl (Or.inl rfl) (caught_gives rfl L.mP rfl rfl) L.tb rfl (by simp [TT1]; rfl) hm (hr.mono (show 22 ≤ 24 by decide)) (lamS_by (show lamSB (defScope sLaw3) _ = true by decide +kernel)) rfl (fun _ _ _ _ _ => rfl)
    (fun A' outer' s H E' fl c' hr' => gI.pe (hr'.mono (show 19 ≤ 20 by decide)) passL (pa_cons (pv 3) (pa_cons (pv 4) (pa_cons (pv 11) pa_nil))) rfl))) fun D σ H h => ?_
  obtain ⟨q, n, p, nm, l, c, y, e, pp, rfl, e3, e4, e11, g0, hy, oe, er, k⟩ := h
  refine ⟨g0.G.T, fun H1 eN T1 => ?_⟩
  have g1 := g0.ext eN T1
  have k1 := Kc.ext (d := q.d) (l := l) eN
  refine ⟨.int n, by rw [← e3]; rfl, .ref p, by rw [← e4]; rfl, y, by rw [← e11]; rfl, ?_⟩
  refine BadTermAt.sortOf (cN := cN) (cS := cS) (g1.bad (dp_same cut_sub (k1.dp hy)) oe er fun H3 q' x s3 hq nx => ⟨L.xT, fun a na => ?_⟩)
  have s4 := new_same (o := .xd [(("at" : Str), .ref q')]) nx
  have e4 : (upd H3 x (.xd [(("at" : Str), .ref q')])) x = some (.xd [(("at" : Str), .ref q')]) := upd_same
  generalize upd H3 x (.xd [(("at" : Str), .ref q')]) = H4 at s4 e4 na ⊢
  have s5 := new_same (o := ErrO (.ref cT) (some x) a) na
  have s35 := s3.trans (s4.trans s5)
  exact k a _ (g1.same s35) (k1.trans (Kc.same s35)) ⟨x, q', upd_same, s5 _ _ e4, Kp.sqT (.of (s4.trans s5)) hq⟩
/-- caught = _law_caught(lambda: Piece(size, names_here, whole)) -/
theorem b11 (G : LawTop3 P w K mg base cN cS cT) (L : LawErr3 P w K mg base cT cPE cL pT) (hr : RoomZ f cL A s0) : PS (LZ P w K mg base f cL A outer s0 H0 E) (le3 11) (fun D σ H => ∃ (q : FrM) (n : Int) (p : Addr) (nm : NmS) (l c : Addr) (y : V) (e : PyData) (pp : List Int), σ = q.st ∧ q.v3 = some (.int n) ∧ q.v4 = some (.ref p) ∧ q.v11 = some y ∧ S2 (TT1 pT) H n p nm q.d l c ∧ Dp K (Cut H q.d l) y e ∧ OD e ∧ sortM n 12 (toNm nm) e [] 0 = .error pp ∧
    ∀ a H', S2 (TT1 pT) H' n p nm q.d l c → Kc H H' q.d l → ErrAt K H' a cT pp → D.nx { q with v13 := some (.ref a) }.st H') := by
  obtain ⟨C, fI, dI, mP, M, FP, bP⟩ := G.made
  obtain ⟨fC, dC, FC, mC⟩ := L.caught
  have bC : Binds K dC ["work"] [] := FC.binds fun _ _ _ _ _ _ us hl => match us, hl with | [_], _ => rfl
  obtain ⟨oc, od, kV, doc, pm, an, cdv, ct, osl, rfl, lk, hcd⟩ := FC.ex
  have hm : ∀ p ∈ TT1 pT, p.1 = pT → p.2 = (LZ P w K mg base f cL A outer s0 H0 E).env.qual ++ "<lambda>" := fun p hp _ => by
    rw [List.mem_singleton] at hp
    rw [hp]
    rfl
  refine PS.imp (ps_set (X := LZ P w K mg base f cL A outer s0 H0 E) (i := 13) nd3 rfl (Or.inl rfl) (pe_lamcall (X := LZ P w K mg base f cL A outer s0 H0 E) (T := TT1 pT) (k := 20) rfl mC FC.kp lk hcd bC scCaught rfl (Or.inl rfl) (caught_gives rfl L.mP rfl rfl) L.tb rfl (by simp [TT1]; rfl) hm (hr.mono (show 22 ≤ 24 by decide)) (lamS_by (show lamSB (defScope sLaw3) _ = true by decide +kernel)) rfl (fun _ _ _ _ _ => rfl)
    (fun A' outer' s H E' fl c' hr' => pe_make (X := lamCx (LZ P w K mg base f cL A outer s0 H0 E) A' outer' s H E' _ fl c') M FP (hr'.mono (show 20 ≤ 20 by decide)) (by rfl) mP bP .nil passL (pa_cons (pv 3) (pa_cons (pv 4) (pa_cons (pv 11) pa_nil)))))) fun D σ H h => ?_
  obtain ⟨q, n, p, nm, l, c, y, e, pp, rfl, e3, e4, e11, g0, hy, oe, er, k⟩ := h
  refine ⟨g0.G.T, fun H1 eN T1 => ?_⟩
  have g1 := g0.ext eN T1
  have k1 := Kc.ext (d := q.d) (l := l) eN
  refine ⟨.int n, by rw [← e3]; rfl, .ref p, by rw [← e4]; rfl, y, by rw [← e11]; rfl, ?_⟩
  intro o od' no nod ne
  have s1 : Same H1 (upd H1 od' (.own o)) := new_same nod
  have s2 : Same (upd H1 od' (.own o)) (upd (upd H1 od' (.own o)) o (.ins C od' [])) := new_same (by rw [upd_ne (Ne.symm ne)]; exact no)
  have s12 := s1.trans s2
  generalize upd (upd H1 od' (.own o)) o (.ins C od' []) = H2 at s12 ⊢
  have g2 := g1.same s12
  refine ⟨.ref o, y, n, p, rfl, g2.bad (dp_same (cut_sub.trans s12) (k1.dp hy)) oe er fun H3 q' x s3 hq nx => ⟨L.xT, fun a na => ?_⟩⟩
  have s4 := new_same (o := .xd [(("at" : Str), .ref q')]) nx
  have e4 : (upd H3 x (.xd [(("at" : Str), .ref q')])) x = some (.xd [(("at" : Str), .ref q')]) := upd_same
  generalize upd H3 x (.xd [(("at" : Str), .ref q')]) = H4 at s4 e4 na ⊢
  have s5 := new_same (o := ErrO (.ref cT) (some x) a) na
  have s35 := (s12.trans s3).trans (s4.trans s5)
  exact k a _ (g1.same s35) (k1.trans (Kc.same s35)) ⟨x, q', upd_same, s5 _ _ e4, Kp.sqT (.of (s4.trans s5)) hq⟩
/-- repr(caught.at) != repr(place), and what is before -/
theorem repr_place {H : Hp} {b : Addr} {pp : List Int} {Q : VK} (hb : SqT K H b (pp.map V.int)) (hl : pp.length ≤ 100) (hp : ∀ i ∈ pp, 0 ≤ i ∧ i ≤ 1000) (k : Q (.str (PyData.tuple (pp.map PyData.int)).shown) H) : rReprK K [.ref b] H Q := by
  obtain ⟨h1, h2, h3⟩ := place_repr hl hp
  exact ⟨b, _, rfl, fun X hX => by subst hX; exact ReadsV.sqT hb (reads_ints pp), h1, h2, h3, k⟩
theorem kc_sqT {H H' : Hp} {d l b : Addr} {xs : List V} (k : Kc H H' d l) (e : Cut H d l b = some (.tup xs)) : SqT K H' b xs := SqT.of (cut_sub _ _ (tup_kc k e))
/-- if is_term(..) is not False or not isinstance(caught, BadTerm) or ..: never -/
theorem b10 (G : LawTop3 P w K mg base cN cS cT) (L : LawErr3 P w K mg base cT cPE cL pT) (hr : RoomZ f cL A s0) (hg : A.guards = some []) : PS (LZ P w K mg base f cL A outer s0 H0 E) (le3 10) (fun D σ H => ∃ (q : FrM) (n : Int) (p : Addr) (nm : NmS) (l c a b : Addr) (y : V) (e : PyData) (pp : List Int), σ = q.st ∧ q.v3 = some (.int n) ∧ q.v4 = some (.ref p) ∧ q.v7 = some (.ref b) ∧ q.v11 = some y ∧ q.v13 = some (.ref a) ∧ S2 (TT1 pT) H n p nm q.d l c ∧ Dp K (Cut H q.d l) y e ∧ OD e ∧ sortM n 12 (toNm nm) e [] 0 = .error pp ∧ SqT K H b (pp.map V.int) ∧ pp.length ≤ 100 ∧ (∀ i ∈ pp, 0 ≤ i ∧ i ≤ 1000) ∧ ErrAt K H a cT pp ∧
    ∀ H', Same H H' → D.nx q.st H') := by
  obtain ⟨fI, dI, gI⟩ := G.isTerm
  have hu : (LZ P w K mg base f cL A outer s0 H0 E).A.units + 64 < cLine := by
    have := hr.un
    show (A.deeper (envOfC "law" (defScope sLaw3) s0.heap.objs.size f (.ref cL))).units + 64 < cLine
    omega
  have hgg : (LZ P w K mg base f cL A outer s0 H0 E).A.guards = some [] := hg
  refine PS.imp (ps_if (X := LZ P w K mg base f cL A outer s0 H0 E) (PW.pt (pw_or (pt_cmpR op_isnot_bl (gI.pe (X := LZ P w K mg base f cL A outer s0 H0 E) (hr.mono (show 19 ≤ 24 by decide)) passF (pa_cons (pv 3) (pa_cons (pv 4) (pa_cons (pv 11) pa_nil))) rfl) pe_bl (nomark _))
    (pw_or (pt_not (pt_val (pe_callB call_isG (by rfl) G.isi (by decide +kernel) (pa_cons (pv 13) (pa_cons (pe_glob (v := V.ref cT) (by rfl) L.mT rfl) pa_nil)))))
    (pw_or1 (pt_cmpR op_ne (pe_callB (call_reprK (K := K) rfl hgg hu) (by rfl) G.rep (by decide +kernel) (pa_cons (pe_gotFld (pv 13)) pa_nil)) (pe_callB (call_reprK (K := K) rfl hgg hu) (by rfl) G.rep (by decide +kernel) (pa_cons (pv 7) pa_nil)) (nomark _)))))) (pss_one (ps_ret pe_bl)) pss_nil) fun D σ H h => ?_
  obtain ⟨q, n, p, nm, l, c, a, b, y, e, pp, rfl, e3, e4, e7, e11, e13, g0, hy, oe, er, hb, lb, bb, hea, k⟩ := h
  refine ⟨.int n, by rw [← e3]; rfl, .ref p, by rw [← e4]; rfl, y, by rw [← e11]; rfl, ?_⟩
  dsimp only [tNil]
  refine S2.isTerm0 (cN := cN) (cS := cS) (E := fun _ _ _ => False) g0 (dp_same cut_sub hy) oe er fun H1 s1 => ?_
  obtain ⟨x, q', ea, ex, hq⟩ := hea.same s1
  have hb1 := Kp.sqT (K := K) (.of s1) hb
  refine ⟨false, false, rfl, rfl, _, rfl, iteNS rfl ?_⟩
  refine ⟨.ref a, by rw [← e13]; rfl, a, cT, .ref cT, .ref cT, true, rfl, .inr ⟨x, "at", _, ea, ex⟩, L.eT, fun u r => r, L.kT, true, rfl, iteF ?_⟩
  refine ⟨.ref a, by rw [← e13]; rfl, a, cT, x, _, rfl, ea, ex, L.eT, L.fT, ?_⟩
  dsimp only [tNil]
  show rReprK K [.ref q'] H1 _
  refine repr_place hq lb bb ?_
  dsimp only [tCB, tCons, tNil]
  refine ⟨.ref b, by rw [← e7]; rfl, ?_⟩
  show rReprK K [.ref b] H1 _
  refine repr_place hb1 lb bb ?_
  refine ⟨rfl, _, rfl, ?_⟩
  rw [show (!decide (V.str (PyData.tuple (pp.map PyData.int)).shown = V.str (PyData.tuple (pp.map PyData.int)).shown)) = false by simp]
  exact iteF (k H1 s1)
/-- if not isinstance(caught, BadTerm) or ..: never -/
theorem b12 (G : LawTop3 P w K mg base cN cS cT) (L : LawErr3 P w K mg base cT cPE cL pT) (hr : RoomZ f cL A s0) (hg : A.guards = some []) : PS (LZ P w K mg base f cL A outer s0 H0 E) (le3 12) (fun D σ H => ∃ (q : FrM) (a b : Addr) (pp : List Int), σ = q.st ∧ q.v7 = some (.ref b) ∧ q.v13 = some (.ref a) ∧ SqT K H b (pp.map V.int) ∧ pp.length ≤ 100 ∧ (∀ i ∈ pp, 0 ≤ i ∧ i ≤ 1000) ∧ ErrAt K H a cT pp ∧
    D.nx q.st H) := by
  have hu : (LZ P w K mg base f cL A outer s0 H0 E).A.units + 64 < cLine := by
    have := hr.un
    show (A.deeper (envOfC "law" (defScope sLaw3) s0.heap.objs.size f (.ref cL))).units + 64 < cLine
    omega
  have hgg : (LZ P w K mg base f cL A outer s0 H0 E).A.guards = some [] := hg
  refine PS.imp (ps_if (X := LZ P w K mg base f cL A outer s0 H0 E) (PW.pt (pw_or (pt_not (pt_val (pe_callB call_isG (by rfl) G.isi (by decide +kernel) (pa_cons (pv 13) (pa_cons (pe_glob (v := V.ref cT) (by rfl) L.mT rfl) pa_nil)))))
    (pw_or1 (pt_cmpR op_ne (pe_callB (call_reprK (K := K) rfl hgg hu) (by rfl) G.rep (by decide +kernel) (pa_cons (pe_gotFld (pv 13)) pa_nil)) (pe_callB (call_reprK (K := K) rfl hgg hu) (by rfl) G.rep (by decide +kernel) (pa_cons (pv 7) pa_nil)) (nomark _))))) (pss_one (ps_ret pe_bl)) pss_nil) fun D σ H h => ?_
  obtain ⟨q, a, b, pp, rfl, e7, e13, hb, lb, bb, hea, k⟩ := h
  obtain ⟨x, q', ea, ex, hq⟩ := hea
  refine ⟨.ref a, by rw [← e13]; rfl, a, cT, .ref cT, .ref cT, true, rfl, .inr ⟨x, "at", _, ea, ex⟩, L.eT, fun u r => r, L.kT, true, rfl, iteF ?_⟩
  refine ⟨.ref a, by rw [← e13]; rfl, a, cT, x, _, rfl, ea, ex, L.eT, L.fT, ?_⟩
  dsimp only [tNil]
  show rReprK K [.ref q'] H _
  refine repr_place hq lb bb ?_
  dsimp only [tCB, tCons, tNil]
  refine ⟨.ref b, by rw [← e7]; rfl, ?_⟩
  show rReprK K [.ref b] H _
  refine repr_place hb lb bb ?_
  refine ⟨rfl, _, rfl, ?_⟩
  rw [show (!decide (V.str (PyData.tuple (pp.map PyData.int)).shown = V.str (PyData.tuple (pp.map PyData.int)).shown)) = false by simp]
  exact iteF k
end
end Jd
/-! law of k03: the last error; whole. -/
namespace Jd
open PySem PySem.Spec PyProof.Rows L2 RZ LamX Lm Dk
abbrev lt3 (i : Nat) : Stmt := (defBody sLaw3).getD i (.Pass ⟨0, 0, 0, 0⟩)
def armsD : PyData := .tuple [.str "if", .tuple [.str "number", .int 1], .tuple [.str "number", .int 0], .tuple [.str "skip"]]
def armsW : PyData := .tuple [.str "then", .tuple [.str "skip"], armsD]
abbrev p23 : List Int := [2, 3]
theorem err_at {t : Told} {p : List Int} (h : (match t with | .error p => some p | .ok _ => none) = some p) : t = .error p := by
  cases t with
  | ok _ => cases h
  | error q => cases h; rfl
theorem arms_err : sortM 2 12 [] armsW [] 0 = .error p23 := err_at (by decide +kernel)
theorem arms_od : OD armsD := od_tup (by show 4 ≤ 1000; decide) (od_cons (od_str (by decide +kernel)) (od_cons (od_tup (by show 2 ≤ 1000; decide) (od_cons (od_str (by decide +kernel)) (od_cons (od_leaf (fun ds e => by cases e) (fun x e => by cases e)) od_nil))) (od_cons (od_tup (by show 2 ≤ 1000; decide) (od_cons (od_str (by decide +kernel)) (od_cons (od_leaf (fun ds e => by cases e) (fun x e => by cases e)) od_nil))) (od_cons (od_tup (by show 1 ≤ 1000; decide) (od_cons (od_str (by decide +kernel)) od_nil)) od_nil))))
theorem armsW_od : OD armsW := od_tup (by show 3 ≤ 1000; decide) (od_cons (od_str (by decide +kernel)) (od_cons (od_tup (by show 1 ≤ 1000; decide) (od_cons (od_str (by decide +kernel)) od_nil)) (od_cons arms_od od_nil)))
section
variable {P : Program} {w : World} {K : PySem.W.Frag} {mg : Str → Option Value} {base : Heap} {cN cS cT cPE cL pT f : Addr} {A : Around} {outer : List Env} {s0 : Shared} {H0 : Hp} {E : XK} {T : List (Addr × Str)}
theorem sort0e {H : Hp} {a : Addr} {v : V} {dd : PyData} {p : List Int} {Q : VK} {E : XK} (ea : H a = some (.dK [])) (hd : Dp K H v dd) (od : OD dd) (e : sortM 2 12 [] dd [] 0 = .error p) (k : ∀ H' q' x, Same H H' → SqT K H' q' (p.map V.int) → H' x = none → E (.ref cT) (some x) (upd H' x (.xd [(("at" : Str), .ref q')]))) :
    spSortOfW K cN cS cT [.int 2, .ref a, v] H Q E := by
  refine ⟨_, _, _, rfl, .inr ⟨2, a, [], some [], dd, rfl, rfl, by decide +kernel, .dct (l := []) ea rfl .nil (by simp), by decide +kernel, ⟨[], ea, rfl, .nil⟩, ⟨List.nodup_nil, by simp⟩, by decide, hd, od.deep, fun _ c' H' z s => (by rw [e] at z; cases z), fun p' H' q' x z s hq nx => ?_⟩⟩
  rw [e] at z
  cases z
  exact k H' q' x s hq nx
/-- arms = .. -/
theorem c1 : PS (LZ P w K mg base f cL A outer s0 H0 E) (lt3 2) (fun D σ H => ∃ (q : FrM) (l c : Addr), σ = q.st ∧ Good2 T H q.d l c ∧ ∀ v H', Good2 T H' q.d l c → Dp K H' v armsD → D.nx { q with v14 := some v }.st H') := by
  refine PS.imp (ps_set (X := LZ P w K mg base f cL A outer s0 H0 E) (i := 14) nd3 rfl (Or.inr rfl) (pe_tup (pa_cons pe_str (pa_cons (pe_tup (pa_cons pe_str (pa_cons pe_int pa_nil))) (pa_cons (pe_tup (pa_cons pe_str (pa_cons pe_int pa_nil))) (pa_cons (pe_tup (pa_cons pe_str pa_nil)) pa_nil)))))) fun D σ H h => ?_
  obtain ⟨q, l, c, rfl, g0, k⟩ := h
  refine ⟨by show 2 ≤ sizeLine; decide, fun t1 n1 => ?_⟩
  have s1 := new_same (o := .tup [.str "number", .int 1]) n1
  have d1 : Dp K (upd H t1 (.tup [.str "number", .int 1])) (.ref t1) (.tuple [.str "number", .int 1]) := .tup (SqT.of upd_same) (.cons (.str _) (.cons (.int _) .nil))
  generalize upd H t1 (.tup [.str "number", .int 1]) = H1 at s1 d1 ⊢
  refine ⟨by show 2 ≤ sizeLine; decide, fun t2 n2 => ?_⟩
  have s2 := new_same (o := .tup [.str "number", .int 0]) n2
  have d2 : Dp K (upd H1 t2 (.tup [.str "number", .int 0])) (.ref t2) (.tuple [.str "number", .int 0]) := .tup (SqT.of upd_same) (.cons (.str _) (.cons (.int _) .nil))
  replace d1 := dp_same s2 d1
  generalize upd H1 t2 (.tup [.str "number", .int 0]) = H2 at s2 d1 d2 ⊢
  refine ⟨by show 1 ≤ sizeLine; decide, fun t3 n3 => ?_⟩
  have s3 := new_same (o := .tup [.str "skip"]) n3
  have d3 : Dp K (upd H2 t3 (.tup [.str "skip"])) (.ref t3) (.tuple [.str "skip"]) := .tup (SqT.of upd_same) (.cons (.str _) .nil)
  replace d1 := dp_same s3 d1
  replace d2 := dp_same s3 d2
  generalize upd H2 t3 (.tup [.str "skip"]) = H3 at s3 d1 d2 d3 ⊢
  refine ⟨by show 4 ≤ sizeLine; decide, fun t4 n4 => ?_⟩
  have s4 := new_same (o := .tup [.str "if", .ref t1, .ref t2, .ref t3]) n4
  exact k (.ref t4) _ (g0.same ((s1.trans s2).trans (s3.trans s4))) (.tup (SqT.of upd_same) (.cons (.str _) (.cons (dp_same s4 d1) (.cons (dp_same s4 d2) (.cons (dp_same s4 d3) .nil)))))
/-- caught = _law_caught(lambda: sort_of(2, {}, ("then", ("skip",), arms))) -/
theorem c2 (G : LawTop3 P w K mg base cN cS cT) (L : LawErr3 P w K mg base cT cPE cL pT) (hr : RoomZ f cL A s0) : PS (LZ P w K mg base f cL A outer s0 H0 E) (lt3 3) (fun D σ H => ∃ (q : FrM) (l c : Addr) (v : V), σ = q.st ∧ q.v14 = some v ∧ Good2 (TT1 pT) H q.d l c ∧ Dp K H v armsD ∧
    ∀ a H', ErrAt K H' a cT p23 → D.nx { q with v13 := some (.ref a) }.st H') := by
  obtain ⟨fI, dI, gI⟩ := G.sortOf
  obtain ⟨fC, dC, FC, mC⟩ := L.caught
  have bC : Binds K dC ["work"] [] := FC.binds fun _ _ _ _ _ _ us hl => match us, hl with | [_], _ => rfl
  obtain ⟨oc, od, kV, doc, pm, an, cdv, ct, osl, rfl, lk, hcd⟩ := FC.ex
  have hm : ∀ p ∈ TT1 pT, p.1 = pT → p.2 = (LZ P w K mg base f cL A outer s0 H0 E).env.qual ++ "<lambda>" := fun p hp _ => by
    rw [List.mem_singleton] at hp
    rw [hp]
    rfl
  refine PS.imp (ps_set (X := LZ P w K mg base f cL A outer s0 H0 E) (i := 13) nd3 rfl (Or.inl rfl) (pe_lamcall (X := LZ P w K mg base f cL A outer s0 H0 E) (T := TT1 pT) (k := 20) rfl mC FC.kp lk hcd bC scCaught rfl (Or.inl rfl) (caught_gives rfl L.mP rfl rfl) L.tb rfl (by simp [TT1]; rfl) hm (hr.mono (show 22 ≤ 24 by decide)) (lamS_by (show lamSB (defScope sLaw3) _ = true by decide +kernel)) rfl (fun _ _ _ _ _ => rfl)
    (fun A' outer' s H E' fl c' hr' => gI.pe (hr'.mono (show 19 ≤ 20 by decide)) passL (pa_cons pe_int (pa_cons pe_dnewK (pa_cons (pe_tup (pa_cons pe_str (pa_cons (pe_tup (pa_cons pe_str pa_nil)) (pa_cons (pv 14) pa_nil)))) pa_nil))) rfl))) fun D σ H h => ?_
  obtain ⟨q, l, c, v, rfl, e14, g0, hd, k⟩ := h
  refine ⟨g0.T, fun H1 eN T1 => ?_⟩
  have hd1 := (Kp.ext eN).dp hd
  intro p np
  have s1 := new_same (o := .dK []) np
  have e1 : (upd H1 p (.dK [])) p = some (.dK []) := upd_same
  generalize upd H1 p (.dK []) = H2 at s1 e1 ⊢
  refine ⟨by show 1 ≤ sizeLine; decide, fun t2 n2 => ?_⟩
  have s2 := new_same (o := .tup [.str "skip"]) n2
  have d2 : Dp K (upd H2 t2 (.tup [.str "skip"])) (.ref t2) (.tuple [.str "skip"]) := .tup (SqT.of upd_same) (.cons (.str _) .nil)
  generalize upd H2 t2 (.tup [.str "skip"]) = H3 at s2 d2 ⊢
  refine ⟨v, by rw [← e14]; rfl, by show 3 ≤ sizeLine; decide, fun t3 n3 => ?_⟩
  have s3 := new_same (o := .tup [.str "then", .ref t2, v]) n3
  have s13 := (s1.trans s2).trans s3
  refine sort0e (cN := cN) (cS := cS) (cT := cT) (dd := armsW) ((s2.trans s3) _ _ e1) (.tup (SqT.of upd_same) (.cons (.str _) (.cons (dp_same s3 d2) (.cons (dp_same s13 hd1) .nil)))) armsW_od arms_err fun H4 q' x s4 hq nx => ⟨L.xT, fun a na => ?_⟩
  have s5 := new_same (o := .xd [(("at" : Str), .ref q')]) nx
  have e5 : (upd H4 x (.xd [(("at" : Str), .ref q')])) x = some (.xd [(("at" : Str), .ref q')]) := upd_same
  generalize upd H4 x (.xd [(("at" : Str), .ref q')]) = H5 at s5 e5 na ⊢
  have s6 := new_same (o := ErrO (.ref cT) (some x) a) na
  exact k a _ ⟨x, q', upd_same, s6 _ _ e5, Kp.sqT (.of (s5.trans s6)) hq⟩
/-- return isinstance(caught, BadTerm) and caught.at == (2, 3) -/
theorem c3 (G : LawTop3 P w K mg base cN cS cT) (L : LawErr3 P w K mg base cT cPE cL pT) (hr : RoomZ f cL A s0) : PS (LZ P w K mg base f cL A outer s0 H0 E) (lt3 4) (fun D σ H => ∃ (q : FrM) (a : Addr), σ = q.st ∧ q.v13 = some (.ref a) ∧ ErrAt K H a cT p23 ∧ ∀ H', D.rt (.bl true) H') := by
  refine PS.imp (ps_ret (X := LZ P w K mg base f cL A outer s0 H0 E) (pe_and (pe_callB call_isG (by rfl) G.isi (by decide +kernel) (pa_cons (pv 13) (pa_cons (pe_glob (v := V.ref cT) (by rfl) L.mT rfl) pa_nil)))
    (pe_one (pe_cmpR (op_eqD hr.units) (pe_gotFld (pv 13)) (pe_tup (pa_cons pe_int (pa_cons pe_int pa_nil))) (nomark _))))) fun D σ H h => ?_
  obtain ⟨q, a, rfl, e13, ⟨x, q', ea, ex, hq⟩, k⟩ := h
  refine ⟨.ref a, by rw [← e13]; rfl, a, cT, .ref cT, .ref cT, true, rfl, .inr ⟨x, "at", _, ea, ex⟩, L.eT, fun u r => r, L.kT, true, rfl, iteT ?_⟩
  refine ⟨.ref a, by rw [← e13]; rfl, a, cT, x, _, rfl, ea, ex, L.eT, L.fT, by show 2 ≤ sizeLine; decide, fun t nt => ?_⟩
  have s1 := new_same (o := .tup (p23.map V.int)) nt
  refine ⟨.tuple (p23.map PyData.int), .tuple (p23.map PyData.int), .tup (Kp.sqT (.of s1) hq) (dps_ints' p23), .tup (SqT.of upd_same) (dps_ints' p23), by decide +kernel, by decide +kernel, ?_⟩
  rw [show PyData.eqv (.tuple (p23.map PyData.int)) (.tuple (p23.map PyData.int)) = true by decide +kernel]
  exact k _
end
end Jd
/-! law of k03, whole. -/
namespace Jd
open PySem PySem.Spec PyProof.Rows L2 RZ LamX Lm Dk
section
variable {P : Program} {w : World} {K : PySem.W.Frag} {mg : Str → Option Value} {base : Heap} {cN cS cT cPE cL pT : Addr}
def spLaw (K : PySem.W.Frag) (pT : Addr) : Sp := fun vs H Q _ => ∃ (a : Addr) (ns : List Int), vs = [.ref a] ∧ SqL K H a (ns.map V.int) ∧ ns.length ≤ 63 ∧ H pT = some (.tbl #[]) ∧ ∀ H', Q (.bl true) H'
theorem pts_kc {HC HC' : Hp} {nm : NmL} {dd : PyData} {ts : List V} (h : ∀ t ∈ ts, PlOk HC nm dd t) (k : Kp HC HC') : ∀ t ∈ ts, PlOk HC' nm dd t := fun t ht => (h t ht).kp k
theorem ok_law3 {f : Addr} {fd : FuncData} (F : Fun K "law" "law" sLaw3 f fd) (hc : fd.code = .ref cL) (G : LawTop3 P w K mg base cN cS cT) (L : LawErr3 P w K mg base cT cPE cL pT) : FnOkG P w K mg base 25 f fd ["script"] (spLaw K pT) := by
  refine Fun.okGC F scLaw3 (fun vs H Q E h => ?_) (fun A outer s H vs Q E hg hr h => ?_)
  · obtain ⟨a, ns, rfl, _⟩ := h
    rfl
  rw [hc] at hr ⊢
  obtain ⟨fB, dB, gB⟩ := G.begun
  obtain ⟨a, ns, rfl, hS, hlen, hT, k⟩ := h
  refine ⟨_, pss_cons (ps_set (X := LZ P w K mg base f cL A outer s H E) (i := 1) nd3 rfl (Or.inl rfl) (gB.pe (X := LZ P w K mg base f cL A outer s H E) (hr.mono (show 1 ≤ 24 by decide)) pass0 (pa_cons (pv 0) pa_nil) rfl))
    (pss_cons (ps_for (X := LZ P w K mg base f cL A outer s H E) PassesOwn.never rfl (pi_range1 (by rfl) G.rng (pa_cons (pe_op op_add pe_int (pe_callB (call_min2 rfl) (by rfl) G.min (by decide +kernel) (pa_cons (pe_callB call_len_seq (by rfl) G.len PySem.boot_len (pa_cons (pv 0) pa_nil)) (pa_cons pe_int pa_nil)))) pa_nil))
      (pg_name (i := 2) nd3 rfl (Or.inl rfl))
      (pss_cons (b0 (T := TT1 pT) G hr) (pss_cons (b1 (T := TT1 pT) G hr) (pss_cons (b2 (T := TT1 pT) G hr) (pss_cons (b3 (T := TT1 pT) G hr) (pss_cons (b4 (T := TT1 pT) G hr) (pss_cons (b5 (T := TT1 pT) G hr) (pss_cons (b6 (T := TT1 pT) G hr) (pss_cons (b7 (T := TT1 pT) G hr) (pss_cons (b8 (T := TT1 pT) G hr) (pss_cons (b9 G L hr) (pss_cons (b10 G L hr hg) (pss_cons (b11 G L hr) (pss_one (b12 G L hr hg)))))))))))))))
    (pss_cons (c1 (T := TT1 pT)) (pss_cons (c2 G L hr) (pss_one (c3 G L hr))))), ?_⟩
  refine ⟨_, rfl, a, ns, rfl, hS, hlen, fun d l c H1 s1 nd nl nc D1 => ?_⟩
  have g1 : Good2 (TT1 pT) H1 d l c := ⟨D1, fun p hp => by
    rw [List.mem_singleton] at hp
    rw [hp]
    exact TabS.nil (s1 _ _ hT)⟩
  have hS1 : SqL K H1 a (ns.map V.int) := Kp.sqL (.of s1) hS
  have hlen' : (ns.map V.int).length ≤ 63 := by rw [List.length_map]; exact hlen
  refine ⟨.ref a, rfl, a, ns.map V.int, rfl, .inl hS1, _, _, rfl, _, _, rfl, rfl, ?_⟩
  have hb : ∃ m : Nat, (2 + (if (8 : Int) < ((ns.map V.int).length : Nat) then 8 else (((ns.map V.int).length : Nat) : Int))) = (m : Int) ∧ m ≤ 100 := by
    by_cases h8 : (8 : Int) < ((ns.map V.int).length : Nat)
    · exact ⟨10, by rw [if_pos h8]; rfl, by decide⟩
    · exact ⟨2 + (ns.map V.int).length, by rw [if_neg h8]; omega, by omega⟩
  obtain ⟨m, em, m100⟩ := hb
  refine ⟨m, by rw [← em], by omega, by omega, ?_⟩
  rw [Int.toNat_natCast]
  refine for_range (lo := 0) (n := m) (fun i σ H' => Good2 (TT1 pT) H' d l c ∧ ∃ v2 v3 v4 v5 v6 v7 v8 v9 v10 v11 v12 v13 v14, σ = (FrM.mk a d v2 v3 v4 v5 v6 v7 v8 v9 v10 v11 v12 v13 v14).st) ⟨g1, none, none, none, none, none, none, none, none, none, none, none, none, none, rfl⟩ ?_ ?_
  · rintro i σ H2 hi ⟨g2, v2, v3, v4, v5, v6, v7, v8, v9, v10, v11, v12, v13, v14, rfl⟩
    refine ⟨FrM.mk a d (some (.int (0 + (i : Int)))) v3 v4 v5 v6 v7 v8 v9 v10 v11 v12 v13 v14, l, c, rfl, g2, fun n p nm H3 S3 => ?_⟩
    refine ⟨_, n, p, nm, l, c, rfl, rfl, rfl, S3, fun v dd g kk H4 S4 hv4 td ty k60 => ?_⟩
    refine ⟨_, n, p, nm, l, c, v, dd, g, kk, rfl, rfl, S4, hv4, td, ty, k60, fun pl ts H5 S5 k5 ep5 lt0 lt61 hts5 => ?_⟩
    have hv5 := k5.dp hv4
    refine ⟨_, n, p, nm, l, c, pl, ts, dd, rfl, rfl, S5, ep5, lt0, lt61, hts5, fun b pp w' l' H6 S6 k6 eb6 plc => ?_⟩
    have hv6 := k6.dp hv5
    have ep6 := lst_kc k6 ep5
    have hts6 := pts_kc hts5 k6
    refine ⟨_, n, p, nm, l, c, v, dd, g, kk, b, pp, w', l', rfl, rfl, rfl, rfl, rfl, S6, hv6, td, ty, eb6, plc, fun x bb H7 S7 k7 hx7 ob7 wr7 => ?_⟩
    have k67 := k7
    refine ⟨_, n, p, nm, l, c, dd, pp, w', l', x, bb, rfl, rfl, rfl, S7, plc, hx7, ob7, wr7, fun x bb v10' H8 S8 k8 hx8 ob8 bad8 hw8 => ?_⟩
    have k68 := k7.trans k8
    have hv8 := k68.dp hv6
    have eb8 := tup_kc k68 eb6
    refine ⟨_, n, p, nm, l, c, v, dd, g, kk, b, pp, w', l', x, bb, rfl, rfl, rfl, rfl, S8, hv8, td, ty, eb8, plc, hx8, fun y H9 S9 k9 hy9 => ?_⟩
    have k69 := k68.trans k9
    have eb9 := tup_kc k9 eb8
    refine ⟨_, n, p, nm, l, c, pl, ts, dd, b, pp, rfl, rfl, rfl, S9, lst_kc k69 ep6, lt61, pts_kc hts6 k69, eb9, fun lt acc H10 S10 k10 el10 la61 hla => ?_⟩
    have eb10 := tup_kc k10 eb9
    refine ⟨_, n, p, nm, l, c, dd, g, kk, b, pp, w', l', bb, y, lt, acc, rfl, rfl, rfl, rfl, S10, td, ty, k60, eb10, plc, ob8, bad8, hw8, k10.dp hy9, el10, la61, hla, fun y e H11 S11 k11 he11 oe er => ?_⟩
    have eb11 := tup_kc k11 eb10
    refine ⟨_, n, p, nm, l, c, y, e, pp, rfl, rfl, rfl, rfl, S11, he11, oe, er, fun a1 H12 S12 k12 ea12 => ?_⟩
    have ln := plc.len ty
    have bd : ∀ i ∈ pp, 0 ≤ i ∧ i ≤ 1000 := by
      obtain ⟨yq, al⟩ := plc.along
      exact along_bound td al
    have eb12 := tup_kc k12 eb11
    refine ⟨_, n, p, nm, l, c, a1, b, y, e, pp, rfl, rfl, rfl, rfl, rfl, rfl, S12, k12.dp he11, oe, er, SqT.of (cut_sub _ _ eb12), by omega, bd, ea12, fun H13 s13 => ?_⟩
    have k13 := Kc.same (d := d) (l := l) s13
    refine ⟨_, n, p, nm, l, c, y, e, pp, rfl, rfl, rfl, rfl, S12.same s13, k13.dp (k12.dp he11), oe, er, fun a2 H14 S14 k14 ea14 => ?_⟩
    refine ⟨_, a2, b, pp, rfl, rfl, rfl, SqT.of (cut_sub _ _ (tup_kc (k13.trans k14) eb12)), by omega, bd, ea14, ?_⟩
    exact ⟨S14.G, _, _, _, _, _, _, _, _, _, _, _, _, _, rfl⟩
  · rintro σ H2 ⟨g2, v2, v3, v4, v5, v6, v7, v8, v9, v10, v11, v12, v13, v14, rfl⟩
    refine ⟨FrM.mk a d v2 v3 v4 v5 v6 v7 v8 v9 v10 v11 v12 v13 v14, l, c, rfl, g2, fun v H3 g3 hd3 => ?_⟩
    refine ⟨_, l, c, v, rfl, rfl, g3, hd3, fun a1 H4 ea4 => ?_⟩
    exact ⟨_, a1, rfl, rfl, ea4, fun H' => k H'⟩
end
end Jd
/-! What the top has written of own error classes: for every law. -/
namespace Ef
open PySem PySem.Spec PyProof.Rows L2
/-! ### what the top has written -/
abbrev veM : List Value := [.type "ValueError", .type "Exception", .type "BaseException", .type "object"]
/-- of one class, over PlayError at cP -/
structure ClsF (K : PySem.W.Frag) (cP C : Addr) : Prop where
  cl : ∃ cd : ClassData, PySem.W.clsIn K C = some cd ∧ cd.mro = .ref C :: .ref cP :: veM ∧ cd.hasDict = true
  ty : PySem.W.typeIn K (.ref C) = some (.type "type")
  ga : PySem.W.findIn K (.ref C) "__getattribute__" = some (some (.builtin "BaseException.__getattribute__"))
  gg : PySem.W.findIn K (.ref C) "__getattr__" = some none
  gc : PySem.W.findIn K (.ref C) "__class__" = some (some (.builtin "object.__class__"))
structure PlayF (K : PySem.W.Frag) (cP : Addr) : Prop where
  cl : ∃ cd : ClassData, PySem.W.clsIn K cP = some cd ∧ cd.mro = .ref cP :: veM ∧ cd.hasDict = true
  ty : PySem.W.typeIn K (.ref cP) = some (.type "type")
  ga : PySem.W.findIn K (.ref cP) "__getattribute__" = some (some (.builtin "BaseException.__getattribute__"))
  gg : PySem.W.findIn K (.ref cP) "__getattr__" = some none
  gc : PySem.W.findIn K (.ref cP) "__class__" = some (some (.builtin "object.__class__"))
section
variable {K : PySem.W.Frag} {cP C C' : Addr} {cd : ClassData} {m : List Value}
theorem sub_mro {b : Value} {r : Bool} (e : PySem.W.clsIn K C = some cd) (h : cd.mro = m) (hm : m ≠ []) (hb : m.contains b = r) : PySem.W.subIn K (.ref C) b = some r := by
  show PySem.W.mroIn K C b = some r
  unfold PySem.W.mroIn
  rw [e, Option.bind_some, h, hb, if_neg]
  intro z
  rw [List.isEmpty_iff] at z
  exact hm z
theorem kit_cls {r : Bool} (e : ∃ cd : ClassData, PySem.W.clsIn K C' = some cd) (ty : PySem.W.typeIn K (.ref C') = some (.type "type")) (ne : C ≠ C') (s : PySem.W.subIn K (.ref C) (.ref C') = some r) : PySem.W.kitOne K (.ref C) (.ref C') = some r := by
  obtain ⟨cd, e⟩ := e
  have q : (Value.ref C == Value.ref C') = false := by simp [ne]
  show (if (Value.ref C == Value.ref C') = true then some true else PySem.W.kitCls K (.ref C) (.ref C')) = some r
  rw [q, if_neg Bool.false_ne_true]
  show (if ((PySem.W.clsIn K C').isSome && PySem.W.typeIn K (.ref C') == some (.type "type")) = true then PySem.W.subIn K (.ref C) (.ref C') else none) = some r
  rw [e, ty, if_pos (by simp)]
  exact s
theorem kit_type {r : Bool} (s : PySem.W.subIn K (.ref C) (.type "ValueError") = some r) : PySem.W.kitOne K (.ref C) (.type "ValueError") = some r := by
  show (if (Value.ref C == Value.type "ValueError") = true then some true else PySem.W.kitCls K (.ref C) (.type "ValueError")) = some r
  rw [show (Value.ref C == Value.type "ValueError") = false from rfl, if_neg Bool.false_ne_true]
  show (if PySem.W.kitMeta "ValueError" = true then PySem.W.subIn K (.ref C) (.type "ValueError") else none) = some r
  rw [if_pos (by decide +kernel)]
  exact s
theorem kit_self : PySem.W.kitOne K (.ref C) (.ref C) = some true := by
  show (if (Value.ref C == Value.ref C) = true then some true else _) = some true
  rw [if_pos (by simp)]
theorem has_dict (e : PySem.W.clsIn K C = some cd) (h : cd.hasDict = true) : PySem.W.hasDictIn K C = true := by
  unfold PySem.W.hasDictIn
  rw [e]
  exact h
/-- what is asked of object.__class__ -/
structure ObjF (K : PySem.W.Frag) : Prop where
  hn : PySem.W.specialIn K (.builtin "object.__class__") "__get__" = some (some (.builtin "getset_descriptor.__get__"))
  ht : PySem.W.takesIn K (.builtin "object.__class__") = some true
theorem ClsF.exc (f : ClsF K cP C) (o : ObjF K) : ExcC K C := by
  obtain ⟨cd, e, h, hd⟩ := f.cl
  exact ⟨f.ga, f.gg, sub_mro e h (by simp) (by simp), has_dict e hd, f.gc, o.hn, o.ht, sub_mro e h (by simp) (by simp)⟩
theorem PlayF.exc (f : PlayF K cP) (o : ObjF K) : ExcC K cP := by
  obtain ⟨cd, e, h, hd⟩ := f.cl
  exact ⟨f.ga, f.gg, sub_mro e h (by simp) (by simp), has_dict e hd, f.gc, o.hn, o.ht, sub_mro e h (by simp) (by simp)⟩
theorem ClsF.no (f : ClsF K cP C) (g : ClsF K cP C') (ne : C ≠ C') (nP : C' ≠ cP) : PySem.W.kitOne K (.ref C) (.ref C') = some false := by
  obtain ⟨cd, e, h, _⟩ := f.cl
  obtain ⟨cd', e', _⟩ := g.cl
  exact kit_cls ⟨_, e'⟩ g.ty ne (sub_mro e h (by simp) (by simp [ne.symm, nP]))
theorem ClsF.play (f : ClsF K cP C) (g : PlayF K cP) (nP : C ≠ cP) : PySem.W.kitOne K (.ref C) (.ref cP) = some true := by
  obtain ⟨cd, e, h, _⟩ := f.cl
  obtain ⟨cd', e', _⟩ := g.cl
  exact kit_cls ⟨_, e'⟩ g.ty nP (sub_mro e h (by simp) (by simp))
theorem ClsF.ve (f : ClsF K cP C) : PySem.W.kitOne K (.ref C) (.type "ValueError") = some true := by
  obtain ⟨cd, e, h, _⟩ := f.cl
  exact kit_type (sub_mro e h (by simp) (by simp))
theorem PlayF.ve (f : PlayF K cP) : PySem.W.kitOne K (.ref cP) (.type "ValueError") = some true := by
  obtain ⟨cd, e, h, _⟩ := f.cl
  exact kit_type (sub_mro e h (by simp) (by simp))
theorem PlayF.no (f : PlayF K cP) (g : ClsF K cP C') (nP : C' ≠ cP) : PySem.W.kitOne K (.ref cP) (.ref C') = some false := by
  obtain ⟨cd, e, h, _⟩ := f.cl
  obtain ⟨cd', e', _⟩ := g.cl
  exact kit_cls ⟨_, e'⟩ g.ty nP.symm (sub_mro e h (by simp) (by simp [nP]))
/-- PlayError's way to ValueError.__init__ -/
theorem ClsF.sup (f : ClsF K cP C) (g : PlayF K cP) (nP : C ≠ cP) (hi : PySem.W.findIn K (.ref cP) "__init__" = some (some (.builtin "ValueError.__init__"))) : PySem.W.ks_superIn K C C "__init__" = some (some (.builtin "ValueError.__init__")) := by
  obtain ⟨cd, e, h, _⟩ := f.cl
  obtain ⟨cd', e', h', _⟩ := g.cl
  have along : PySem.W.alongIn K "__init__" (.ref cP :: veM) = some (some (.builtin "ValueError.__init__")) := by
    have q := hi
    unfold PySem.W.findIn at q
    dsimp only at q
    unfold PySem.W.clsIn at e'
    revert q e'
    cases K.lookup cP with
    | none => intro e'; cases e'
    | some ob =>
      obtain ⟨oc, od, da, osl⟩ := ob
      cases da <;> intro e' q <;> first | (cases e'; done) | (obtain rfl := Option.some.inj e'; have q' : PySem.W.alongIn K "__init__" _ = _ := q; rw [h'] at q'; exact q')
  unfold PySem.W.ks_superIn
  rw [e, Option.bind_some, h]
  have dr : ((Value.ref C :: .ref cP :: veM).dropWhile (· != .ref C)).drop 1 = .ref cP :: veM := by simp [List.dropWhile_cons]
  rw [dr]
  exact along
end
end Ef
namespace Ef
open PySem PySem.Spec PyProof.Rows L2
section
variable {K : PySem.W.Frag} {mg : Str → Option Value} {cP C fI : Addr} {cd : ClassData}
theorem clsF_mk (e : PySem.W.clsIn K C = some cd) (m : cd.mro = .ref C :: .ref cP :: veM) (d : cd.hasDict = true) (t : PySem.W.typeIn K (.ref C) = some (.type "type"))
    (a : PySem.W.findIn K (.ref C) "__getattribute__" = some (some (.builtin "BaseException.__getattribute__"))) (b : PySem.W.findIn K (.ref C) "__getattr__" = some none) (c : PySem.W.findIn K (.ref C) "__class__" = some (some (.builtin "object.__class__"))) : ClsF K cP C :=
  ⟨⟨cd, e, m, d⟩, t, a, b, c⟩
theorem playF_mk (e : PySem.W.clsIn K cP = some cd) (m : cd.mro = .ref cP :: veM) (d : cd.hasDict = true) (t : PySem.W.typeIn K (.ref cP) = some (.type "type"))
    (a : PySem.W.findIn K (.ref cP) "__getattribute__" = some (some (.builtin "BaseException.__getattribute__"))) (b : PySem.W.findIn K (.ref cP) "__getattr__" = some none) (c : PySem.W.findIn K (.ref cP) "__class__" = some (some (.builtin "object.__class__"))) : PlayF K cP :=
  ⟨⟨cd, e, m, d⟩, t, a, b, c⟩
/-- names and what they mean, one by one -/
inductive NsAll (K : PySem.W.Frag) : List Str → List Addr → Prop
  | nil : NsAll K [] []
  | cons {x : Str} {C : Addr} {xs : List Str} {cs : List Addr} (h : PySem.W.nsIn K mainGlobals x = some (some (.ref C))) (t : NsAll K xs cs) : NsAll K (x :: xs) (C :: cs)
theorem NsAll.at_ {xs : List Str} {cs : List Addr} (n : NsAll K xs cs) : ∀ {i : Nat} {x : Str}, xs[i]? = some x → PySem.W.nsIn K mainGlobals x = some (some (.ref (cs.getD i 0))) := by
  induction n with
  | nil => intro i x e; cases e
  | cons h t ih =>
    intro i x e
    match i, e with
    | 0, e => cases e; exact h
    | i + 1, e => exact ih e
inductive ClsAll (K : PySem.W.Frag) (cP : Addr) : List Addr → Prop
  | nil : ClsAll K cP []
  | cons {C : Addr} {cs : List Addr} (h : ClsF K cP C) (t : ClsAll K cP cs) : ClsAll K cP (C :: cs)
theorem ClsAll.at_ {cs : List Addr} (n : ClsAll K cP cs) : ∀ {i : Nat}, i < cs.length → ClsF K cP (cs.getD i 0) := by
  induction n with
  | nil => intro i e; cases e
  | cons h t ih =>
    intro i e
    match i, e with
    | 0, e => exact h
    | i + 1, e => exact ih (Nat.lt_of_succ_lt_succ e)
inductive ExcAll (K : PySem.W.Frag) : List Addr → Prop
  | nil : ExcAll K []
  | cons {C : Addr} {cs : List Addr} (h : PySem.W.excIn K C [.type "ValueError", .type "Exception", .type "BaseException", .type "object"] "ValueError.__new__" = true) (k : PySem.W.keepIn K (.ref C) = true) (t : ExcAll K cs) : ExcAll K (C :: cs)
theorem ExcAll.at_ {cs : List Addr} (n : ExcAll K cs) : ∀ {i : Nat}, i < cs.length → PySem.W.excIn K (cs.getD i 0) [.type "ValueError", .type "Exception", .type "BaseException", .type "object"] "ValueError.__new__" = true ∧ PySem.W.keepIn K (.ref (cs.getD i 0)) = true := by
  induction n with
  | nil => intro i e; cases e
  | cons h k t ih =>
    intro i e
    match i, e with
    | 0, e => exact ⟨h, k⟩
    | i + 1, e => exact ih (Nat.lt_of_succ_lt_succ e)
/-- what the top says of an own error with a field, its way to ValueError aside -/
structure ErrF (P : Program) (K : PySem.W.Frag) (C fI : Addr) (pn : Str) : Prop where
  oex : OexC K C
  iC : PySem.W.findIn K (.ref C) "__init__" = some (some (.ref fI))
  tI : PySem.W.typeIn K (.ref fI) = some (.type "function")
  noN : PySem.W.findIn K (.ref C) pn = some none
  fn : ∃ (oc : Value) (od : Option Addr) (kV doc pm ct : Value) (an : Option Addr) (osl : Array (Option Value)) (cc cda : Addr) (qual msg : Str) (k0 : Nat) (p1 p2 q0 q1 q2 q3 q4 q5 q6 q7 q8 q9 : Pos)
      (cl ccl : Value) (cld cdd : Option Addr) (csl ccs : Array (Option Value)) (vs : Array Value) (file : Str) (tf : Tok),
    K.lookup fI = some ⟨oc, od, .func (PySem.W.fnX "__init__" qual (Er.eArgs pn p1 p2) (Er.eBody pn msg k0 q0 q1 q2 q3 q4 q5 q6 q7 q8 q9) (Er.eScope pn) [("__class__", cc)] .none kV doc pm an (.ref cda) ct), osl⟩ ∧
    PySem.W.codeIn K (.ref cda) qual = true ∧ K.lookup cc = some ⟨cl, cld, .cell (some (.ref C)), csl⟩ ∧ K.lookup cda = some ⟨ccl, cdd, .fields vs, ccs⟩ ∧ vs[2]? = some (.str file tf) ∧ ((P.main.file : Str) == file) = true ∧ (q2.endLine == q4.line) = true
  pn : Er.PnOk pn
theorem errF_mk {P : Program} {pn : Str} {nm q : Str} {N : Addr} {bs : List Value} {bm : List Value} {sn : List Str} {sub : List Value} {ab : Bool} {col : Option Bool} {dd : Option Addr} {m0 m1 m2 m3 m5 : Option Value}
    {oc kV doc pm ct cl ccl : Value} {od an cld cdd : Option Addr} {osl csl ccs : Array (Option Value)} {cc cda : Addr} {qual msg : Str} {k0 : Nat} {p1 p2 q0 q1 q2 q3 q4 q5 q6 q7 q8 q9 : Pos} {vs : Array Value} {file : Str} {tf : Tok}
    (xL : K.lookup C = some (excClassObj nm q C N bs bm true sn sub ab col dd m0 m1 m2 m3 m5 "ValueError.__new__")) (rf : PySem.HandSPX.refsVE bm = true)
    (sa : PySem.W.findIn K (.ref C) "__setattr__" = some (some (.builtin "object.__setattr__"))) (eC : PySem.W.subIn K (.ref C) (.type "BaseException") = some true) (tC : PySem.W.typeIn K (.ref C) = some (.type "type")) (kC : PySem.W.keepIn K (.ref C) = true)
    (iC : PySem.W.findIn K (.ref C) "__init__" = some (some (.ref fI))) (tI : PySem.W.typeIn K (.ref fI) = some (.type "function")) (noN : PySem.W.findIn K (.ref C) pn = some none)
    (l : K.lookup fI = some ⟨oc, od, .func (PySem.W.fnX "__init__" qual (Er.eArgs pn p1 p2) (Er.eBody pn msg k0 q0 q1 q2 q3 q4 q5 q6 q7 q8 q9) (Er.eScope pn) [("__class__", cc)] .none kV doc pm an (.ref cda) ct), osl⟩)
    (cI : PySem.W.codeIn K (.ref cda) qual = true) (lc : K.lookup cc = some ⟨cl, cld, .cell (some (.ref C)), csl⟩) (ld : K.lookup cda = some ⟨ccl, cdd, .fields vs, ccs⟩) (v2 : vs[2]? = some (.str file tf))
    (fl : ((P.main.file : Str) == file) = true) (ln : (q2.endLine == q4.line) = true) (po : Er.PnOk pn) : ErrF P K C fI pn :=
  ⟨⟨⟨nm, q, N, bs, bm, sn, sub, ab, col, dd, m0, m1, m2, m3, m5, xL, rf⟩, sa, eC, tC, kC⟩, iC, tI, noN, ⟨oc, od, kV, doc, pm, ct, an, osl, cc, cda, qual, msg, k0, p1, p2, q0, q1, q2, q3, q4, q5, q6, q7, q8, q9, cl, ccl, cld, cdd, csl, ccs, vs, file, tf, l, cI, lc, ld, v2, fl, ln⟩, po⟩
inductive ErrAll (P : Program) (K : PySem.W.Frag) : List Str → List Addr → List Addr → Prop
  | nil : ErrAll P K [] [] []
  | cons {x : Str} {C f : Addr} {xs : List Str} {cs fs : List Addr} (h : ErrF P K C f x) (t : ErrAll P K xs cs fs) : ErrAll P K (x :: xs) (C :: cs) (f :: fs)
theorem ErrAll.at_ {P : Program} {xs : List Str} {cs fs : List Addr} (n : ErrAll P K xs cs fs) : ∀ {i : Nat} {x : Str}, xs[i]? = some x → ErrF P K (cs.getD i 0) (fs.getD i 0) x := by
  induction n with
  | nil => intro i x e; cases e
  | cons h t ih =>
    intro i x e
    match i, e with
    | 0, e => cases e; exact h
    | i + 1, e => exact ih e
theorem errTxt_of {P : Program} {pn : Str} (E : ErrF P K C fI pn) (f : ClsF K cP C) (g : PlayF K cP) (nP : C ≠ cP) (hi : PySem.W.findIn K (.ref cP) "__init__" = some (some (.builtin "ValueError.__init__"))) (any : PySem.W.nsIn K cStatics "thirdparty.any" = some none)
    (mgS : mg "super" = none) (top : (P.main.scope.names.lookup ("super" : Str)).isSome = false) : Er.ErrTxt P K mg C fI pn := by
  obtain ⟨cd, e, h, _⟩ := id f.cl
  exact ⟨E.oex, E.iC, E.tI, E.noN, E.fn, any, f.sup g nP hi, sub_mro e h (by simp) (by simp), sub_mro e h (by simp) (by simp), mgS, top, E.pn⟩
end
end Ef
/-! What the top has written: defs, dicts and tuples, by their names; for every law. -/
namespace Wr
open PySem PySem.Spec PyProof.Rows L2
section
variable {K : PySem.W.Frag} {w : World} {h : Heap} {mg : Str → Option Value}
/-- a def of the top -/
def DefE (K : PySem.W.Frag) (x : Str) (st : Stmt) : Prop := ∃ (f : Addr) (fd : FuncData), PySem.W.nsIn K mainGlobals x = some (some (.ref f)) ∧ Fun K x x st f fd
theorem defE_mk {x : Str} {st : Stmt} {f : Addr} {oc : Value} {od an : Option Addr} {osl : Array (Option Value)} {kV doc pm cdv ct : Value} (a : PySem.W.nsIn K mainGlobals x = some (some (.ref f)))
    (l : K.lookup f = some ⟨oc, od, .func (PySem.W.fnOf x x (defArgs st) (defBody st) (defScope st) .none kV doc pm an cdv ct), osl⟩) (c : PySem.W.codeIn K cdv x = true) (k : PySem.W.keepIn K (.ref f) = true) : DefE K x st := ⟨f, _, a, fun_mk l c k⟩
theorem DefE.get {x : Str} {st : Stmt} (D : DefE K x st) (X : K.In h) (G : h.Ns mainGlobals mg) : ∃ f fd, mg x = some (.ref f) ∧ Fun K x x st f fd := by
  obtain ⟨f, fd, a, F⟩ := D
  exact ⟨f, fd, PySem.W.mg_of X G a, F⟩
/-- a class of the top whose `__init__` is its own -/
def ClsE (K : PySem.W.Frag) (x q : Str) (st : Stmt) : Prop := ∃ (C f : Addr) (fd : FuncData), PySem.W.nsIn K mainGlobals x = some (some (.ref C)) ∧ Mk K C f ∧ Fun K "__init__" q st f fd
theorem clsE_mk {x q : Str} {st : Stmt} {C f : Addr} {oc : Value} {od an : Option Addr} {osl : Array (Option Value)} {kV doc pm cdv ct : Value} (a : PySem.W.nsIn K mainGlobals x = some (some (.ref C))) (i : PySem.W.findIn K (.ref C) "__init__" = some (some (.ref f)))
    (l : K.lookup f = some ⟨oc, od, .func (PySem.W.fnOf "__init__" q (defArgs st) (defBody st) (defScope st) .none kV doc pm an cdv ct), osl⟩) (c : PySem.W.codeIn K cdv q = true) (k : PySem.W.keepIn K (.ref f) = true) (fn : PySem.W.isFn K (.ref f) = true) (mk : PySem.W.makesIn K C = true) (kp : PySem.W.keepIn K (.ref C) = true) : ClsE K x q st :=
  ⟨C, f, _, a, ⟨mk, i, fn, kp⟩, fun_mk l c k⟩
/-! ### dicts with text keys -/
def kvOf (e : DictEntry) : Option (Str × Value) := match e.key with
  | .str x _ => some (x, e.val)
  | _ => none
/-- rows of a dict, each told -/
inductive Rows {β : Type} (R : Value → β → Prop) : List (Option (Str × Value)) → List (Str × β) → Prop
  | nil : Rows R [] []
  | cons {x : Str} {u : Value} {b : β} {l : List (Option (Str × Value))} {m : List (Str × β)} (r : R u b) (t : Rows R l m) : Rows R (some (x, u) :: l) ((x, b) :: m)
theorem kv_str {e : DictEntry} {x : Str} {u : Value} (h : kvOf e = some (x, u)) : ∃ t, e.key = .str x t ∧ e.val = u := by
  unfold kvOf at h
  split at h
  · rename_i y t q
    cases h
    exact ⟨t, q, rfl⟩
  · cases h
theorem Rows.find {β : Type} {R : Value → β → Prop} {z : Str} : ∀ {es : List DictEntry} {m : List (Str × β)}, Rows R (es.map kvOf) m → ((m.lookup z = none ∧ es.find? (·.key.isStr z) = none ∧ es.any (·.refKey) = false) ∨ ∃ b e, m.lookup z = some b ∧ es.find? (·.key.isStr z) = some e ∧ R e.val b) := by
  intro es
  induction es with
  | nil =>
    intro m r
    cases r
    exact .inl ⟨rfl, rfl, rfl⟩
  | cons e es ih =>
    intro m r
    rw [List.map_cons] at r
    generalize hk : kvOf e = o at r
    cases r with
    | @cons x u b l m r t =>
      obtain ⟨tk, ek, rfl⟩ := kv_str hk
      have is : e.key.isStr z = (x == z) := by rw [ek]; rfl
      have rk : e.refKey = false := by
        obtain ⟨hh, kk, vv⟩ := e
        dsimp only at ek
        subst ek
        rfl
      by_cases q : x = z
      · subst q
        refine .inr ⟨b, e, ?_, ?_, r⟩
        · rw [List.lookup_cons, beq_self_eq_true]
        · rw [List.find?_cons, is, beq_self_eq_true]
      · have q1 : (x == z) = false := beq_eq_false_iff_ne.mpr q
        have q2 : (z == x) = false := beq_eq_false_iff_ne.mpr (Ne.symm q)
        rcases ih t with ⟨h1, h2, h3⟩ | ⟨b', e', h1, h2, h3⟩
        · refine .inl ⟨?_, ?_, ?_⟩
          · rw [List.lookup_cons, q2]; exact h1
          · rw [List.find?_cons, is, q1]; exact h2
          · rw [List.any_cons, rk, h3]; rfl
        · refine .inr ⟨b', e', ?_, ?_, h3⟩
          · rw [List.lookup_cons, q2]; exact h1
          · rw [List.find?_cons, is, q1]; exact h2
/-- a dict of the top -/
def DictE {β : Type} (K : PySem.W.Frag) (w : World) (x : Str) (R : Value → β → Prop) (m : List (Str × β)) : Prop := ∃ (d : Addr) (es : Array DictEntry) (n : Nat), PySem.W.nsIn K mainGlobals x = some (some (.ref d)) ∧ KDict K w d es n ∧ Rows R (es.toList.map kvOf) m
theorem dictE_mk {β : Type} {x : Str} {R : Value → β → Prop} {m : List (Str × β)} {d : Addr} {es : Array DictEntry} {n : Nat} (a : PySem.W.nsIn K mainGlobals x = some (some (.ref d))) (l : K.lookup d = some ⟨.type "dict", none, .dict es n, #[]⟩) (k : PySem.W.KeysLit w.params es.toList)
    (o : (d == sysModules) = false) (r : Rows R (es.toList.map kvOf) m) : DictE K w x R m := ⟨d, es, n, a, ⟨l, k, o⟩, r⟩
theorem DictE.at_ {β : Type} {R : Value → β → Prop} {m : List (Str × β)} {d : Addr} {es : Array DictEntry} {n : Nat} (D : KDict K w d es n) (r : Rows R (es.toList.map kvOf) m) (z : Str) :
    (m.lookup z = none ∧ PySem.W.nsIn K d z = some none) ∨ ∃ b u, m.lookup z = some b ∧ PySem.W.nsIn K d z = some (some u) ∧ R u b := by
  have e : ∀ (o : Option DictEntry), es.toList.find? (·.key.isStr z) = o → PySem.W.nsIn K d z = (match o with | some e => some (some e.val) | none => if es.toList.any (·.refKey) then none else some none) := fun o h => by
    unfold PySem.W.nsIn
    rw [D.at_]
    show (match es.toList.find? (·.key.isStr z) with | some e => some (some e.val) | none => if es.toList.any (·.refKey) then none else some none) = _
    rw [h]
  rcases r.find (z := z) with ⟨h1, h2, h3⟩ | ⟨b, en, h1, h2, h3⟩
  · refine .inl ⟨h1, ?_⟩
    rw [e _ h2]
    show (if es.toList.any (·.refKey) = true then none else some none) = some none
    rw [h3]
    rfl
  · exact .inr ⟨b, en.val, h1, e _ h2, h3⟩
/-- a tuple of the top -/
def TupE (K : PySem.W.Frag) (vs : List V) (u : Value) : Prop := ∃ a, u = .ref a ∧ ∀ H : Hp, SqT K H a vs
theorem tupE_mk {vs : List V} {a : Addr} {dd : Option Addr} {its : Array Value} {n : Nat} {sl : Array (Option Value)} (l : K.lookup a = some ⟨.type "tuple", dd, .seq its n, sl⟩) (z : its.size ≤ sizeLine) (v : Vals vs its.toList) : TupE K vs (.ref a) :=
  ⟨a, rfl, fun H => .inr ⟨_, its, n, l, rfl, rfl, z, v⟩⟩
end
end Wr
/-! law of k03: from what the top has written. -/
namespace Jd
open PySem PySem.Spec PyProof.Rows L2 RZ LamX Lm Dk Wr
abbrev veT : List Value := [.type "ValueError", .type "Exception", .type "BaseException", .type "object"]
/-- the error classes -/
def ErrE (P : Program) (K : PySem.W.Frag) (mg : Str → Option Value) (cP cN cS cT fN fT : Addr) : Prop :=
  (mg "PlayError" = some (.ref cP) ∧ mg "BadNumber" = some (.ref cN) ∧ mg "BadSort" = some (.ref cS) ∧ mg "BadTerm" = some (.ref cT) ∧ ∃ u, PySem.W.nsIn K mainGlobals "PlayError" = some (some u)) ∧ Ef.PlayF K cP ∧ Ef.ClsF K cP cN ∧ Ef.ClsF K cP cS ∧ Ef.ClsF K cP cT ∧ Ef.ErrF P K cN fN "part" ∧ Ef.ErrF P K cT fT "at" ∧
  PySem.W.excIn K cS veT "ValueError.__new__" = true ∧ PySem.W.keepIn K (.ref cS) = true ∧ (cN ≠ cP ∧ cS ≠ cP ∧ cT ≠ cP)
/-- ((), s) -/
def PairE (K : PySem.W.Frag) (s : Str) (u : Value) : Prop := ∃ a e, u = .ref a ∧ TupE K [.ref e, .str s] (.ref a) ∧ TupE K [] (.ref e)
/-- all that the top has written -/
structure WrE (P : Program) (w : World) (K : PySem.W.Frag) : Prop where
  dNumber : DefE K "is_number" sNumber
  dWithin : DefE K "is_within" sWithin
  dWord : DefE K "is_word" sWord
  dPair : DefE K "is_pair" sPair
  dChkSize : DefE K "check_size" sChkSize
  dPlain : DefE K "is_plain" sPlain
  dSort : DefE K "is_sort" sSort
  dNames : DefE K "is_names" sNames
  dChkNames : DefE K "check_names" sChkNames
  dPaths : DefE K "part_paths" sPaths
  dGivenWord : DefE K "given_word" sGW
  dNamesWithin : DefE K "names_within" sNW
  dPartAlong : DefE K "part_along" sPA
  dIsTerm : DefE K "is_term" sIsTerm
  dSortOf : DefE K "sort_of" sSortOf
  dChecked : DefE K "checked_sort" sChecked
  dSortAt : DefE K "_sort_at" sSortAt
  dHasForm : DefE K "_has_form" sHasForm
  dUse : DefE K "_is_use" sUse
  dThing : DefE K "_is_thing" sThing
  dWantedSorts : DefE K "_wanted_sorts" sWantedSorts
  dIsWanted : DefE K "_is_wanted" sIsWanted
  dSortGiven : DefE K "_sort_given" sSortGiven
  dBegun : DefE K "_law_begun" Dk.sBegun
  dMixed : DefE K "_law_mixed" Dk.sMixed
  dTake : DefE K "_law_take" Dk.sTake
  dPick : DefE K "_law_pick" Dk.sPick
  dShuffled : DefE K "_law_shuffled" sShuffled
  dCaught : DefE K "_law_caught" sCaught
  dLawNames : DefE K "_law_names" sLawNames
  dLNodes : DefE K "_law_nodes" sLNodes
  dLParts : DefE K "_law_parts" sLParts
  dLBoxes : DefE K "_law_boxes" sLBoxes
  dLLeaf : DefE K "_law_leaf" sLLeaf
  dLCall : DefE K "_law_call" sLCall
  dLTerm : DefE K "_law_term" sLTerm
  dLFine : DefE K "_law_fine_term" sLFine
  dLPlaces : DefE K "_law_places" sLPlaces
  dLPiece : DefE K "_law_piece" sLPiece
  dLWith : DefE K "_law_with" sLWith
  dLOdd : DefE K "_law_odd" sLOdd
  cPiece : ClsE K "Piece" "Piece.__init__" sPieceInit
  cLook : ∃ (C f : Addr) (fd : FuncData), PySem.W.nsIn K mainGlobals "Look" = some (some (.ref C)) ∧ Mk K C f ∧ Fun K "__init__" "Look.__init__" sLookInit f fd ∧ Cls K C ∧ NoAttr K C "size" ∧ NoAttr K C "nodes"
  errs : ∀ (h : Heap) (mg : Str → Option Value), K.In h → h.Ns mainGlobals mg → ∃ cP cN cS cT fN fT, ErrE P K mg cP cN cS cT fN fT
  obn : PySem.W.specialIn K (.builtin "object.__class__") "__get__" = some (some (.builtin "getset_descriptor.__get__"))
  obt : PySem.W.takesIn K (.builtin "object.__class__") = some true
  hi : ∀ cP, PySem.W.nsIn K mainGlobals "PlayError" = some (some (.ref cP)) → PySem.W.findIn K (.ref cP) "__init__" = some (some (.builtin "ValueError.__init__"))
  any_ : PySem.W.nsIn K cStatics "thirdparty.any" = some none
  top_ : (P.main.scope.names.lookup ("super" : Str)).isSome = false
  zIsi : PySem.W.nsIn K mainGlobals "isinstance" = some none
  zLen : PySem.W.nsIn K mainGlobals "len" = some none
  zAll : PySem.W.nsIn K mainGlobals "all" = some none
  zInt : PySem.W.nsIn K mainGlobals "int" = some none
  zBool : PySem.W.nsIn K mainGlobals "bool" = some none
  zStr : PySem.W.nsIn K mainGlobals "str" = some none
  zTup : PySem.W.nsIn K mainGlobals "tuple" = some none
  zDict : PySem.W.nsIn K mainGlobals "dict" = some none
  zList : PySem.W.nsIn K mainGlobals "list" = some none
  zAbs : PySem.W.nsIn K mainGlobals "abs" = some none
  zMin : PySem.W.nsIn K mainGlobals "min" = some none
  zRng : PySem.W.nsIn K mainGlobals "range" = some none
  zZip : PySem.W.nsIn K mainGlobals "zip" = some none
  zEnum : PySem.W.nsIn K mainGlobals "enumerate" = some none
  zSorted : PySem.W.nsIn K mainGlobals "sorted" = some none
  zSum : PySem.W.nsIn K mainGlobals "sum" = some none
  zRepr : PySem.W.nsIn K mainGlobals "repr" = some none
  zSup : PySem.W.nsIn K mainGlobals "super" = some none
  plain : ∃ u, PySem.W.nsIn K mainGlobals "PLAIN_SORTS" = some (some u) ∧ TupE K plainVs u
  box_ : ∃ u, PySem.W.nsIn K mainGlobals "BOX" = some (some u) ∧ PairE K "box" u
  num_ : ∃ u, PySem.W.nsIn K mainGlobals "NUMBER" = some (some u) ∧ PairE K "num" u
  signs_ : ∃ t, PySem.W.nsIn K mainGlobals "SIGNS" = some (some (.str signs t))
  mostN : ∃ t, PySem.W.nsIn K mainGlobals "MOST_NAMES" = some (some (.int 4 t))
  mostD : ∃ t, PySem.W.nsIn K mainGlobals "MOST_DEPTH" = some (some (.int 12 t))
  mostM : ∃ t, PySem.W.nsIn K mainGlobals "MOST_NODES" = some (some (.int 60 t))
  forms_ : DictE K w "FORMS" (fun u (ws : List Str) => TupE K (ws.map V.str) u) forms
  given_ : DictE K w "GIVEN" (fun u (g : Str) => ∃ t, u = .str g t) givens
  parts_ : DictE K w "PARTS" (fun u (ps : List Int) => TupE K (ps.map V.int) u) partsT
section
variable {P : Program} {w : World} {K : PySem.W.Frag} {h : Heap} {mg : Str → Option Value}
theorem formTop (W : WrE P w K) (X : K.In h) (G : h.Ns mainGlobals mg) : ∃ d es n, FormTop K w mg d es n := by
  obtain ⟨d, es, n, a, D, r⟩ := W.forms_
  refine ⟨d, es, n, PySem.W.mg_of X G a, D, fun z => ?_, PySem.W.mg_none_of X G W.zZip⟩
  rcases DictE.at_ D r z with ⟨h1, h2⟩ | ⟨b, u, h1, h2, a, rfl, hs⟩
  · exact .inl ⟨h1, h2⟩
  · exact .inr ⟨b, a, h1, h2, hs⟩
theorem givenTop (W : WrE P w K) (X : K.In h) (G : h.Ns mainGlobals mg) : ∃ d es n, GivenTop K w mg d es n := by
  obtain ⟨d, es, n, a, D, r⟩ := W.given_
  refine ⟨d, es, n, PySem.W.mg_of X G a, D, fun z => ?_⟩
  rcases DictE.at_ D r z with ⟨h1, h2⟩ | ⟨b, u, h1, h2, t, rfl⟩
  · exact .inl ⟨h1, h2⟩
  · exact .inr ⟨b, t, h1, h2⟩
theorem partTop (W : WrE P w K) (X : K.In h) (G : h.Ns mainGlobals mg) : ∃ d es n, PartTop K w mg d es n := by
  obtain ⟨d, es, n, a, D, r⟩ := W.parts_
  refine ⟨d, es, n, PySem.W.mg_of X G a, fun z ps e => ?_, PySem.W.mg_none_of X G W.zRng, PySem.W.mg_none_of X G W.zLen⟩
  rcases DictE.at_ D r z with ⟨h1, h2⟩ | ⟨b, u, h1, h2, a, rfl, hs⟩
  · rw [h1] at e
    cases e
  · rw [h1] at e
    cases e
    exact ⟨a, ⟨es, n, _, D.at_, D.lit, h2, rfl⟩, hs⟩
theorem top_of (W : WrE P w K) (X : K.In h) (G : h.Ns mainGlobals mg) : ∃ aP, Top K mg aP := by
  obtain ⟨u, hu, a, rfl, hs⟩ := W.plain
  obtain ⟨t1, e1⟩ := W.signs_
  obtain ⟨t2, e2⟩ := W.mostN
  have z : ∀ {x : Str}, PySem.W.nsIn K mainGlobals x = some none → mg x = none := fun e => PySem.W.mg_none_of X G e
  exact ⟨a, z W.zIsi, z W.zLen, z W.zAll, z W.zInt, z W.zBool, z W.zStr, z W.zTup, z W.zDict, PySem.W.mg_of X G hu, hs, ⟨t1, PySem.W.mg_of X G e1⟩, ⟨t2, PySem.W.mg_of X G e2⟩⟩
theorem sortTop (W : WrE P w K) (X : K.In h) (G : h.Ns mainGlobals mg) : ∃ aB aN, SortTop K mg aB aN := by
  obtain ⟨u, hu, a, e, rfl, ⟨_, ea, ha⟩, ⟨_, ee, he⟩⟩ := W.box_
  obtain ⟨u2, hu2, a2, e2, rfl, ⟨_, ea2, ha2⟩, ⟨_, ee2, he2⟩⟩ := W.num_
  cases ea
  cases ee
  cases ea2
  cases ee2
  exact ⟨a, a2, PySem.W.mg_of X G hu, PySem.W.mg_of X G hu2, fun H => .tup (ha H) (.cons (.tup (he H) .nil) (.cons (.str _) .nil)), fun H => .tup (ha2 H) (.cons (.tup (he2 H) .nil) (.cons (.str _) .nil))⟩
/-- all promises -/
theorem law_of {base : Heap} {cL pT : Addr} (W : WrE P w K) (X : K.In base) (G : base.Ns mainGlobals mg) (TB : TabB base mg cL pT) : ∃ cN cS cT cPE, LawTop3 P w K mg base cN cS cT ∧ LawErr3 P w K mg base cT cPE cL pT := by
  have z : ∀ {x : Str}, PySem.W.nsIn K mainGlobals x = some none → mg x = none := fun e => PySem.W.mg_none_of X G e
  obtain ⟨aP, T⟩ := top_of W X G
  obtain ⟨dF, esF, nF, TF⟩ := formTop W X G
  obtain ⟨dG, esG, nG, TG⟩ := givenTop W X G
  obtain ⟨dP, esP, nP, TP⟩ := partTop W X G
  obtain ⟨cP, cN, cS, cT, fN, fT, ⟨mP, mN, mS, mT, hnP⟩, pF, nF', sF, tF, eN, eT, xS, kS, ncN, ncS, ncT⟩ := W.errs base mg X G
  obtain ⟨fNum, dNum, mNum, FNum⟩ := W.dNumber.get X G
  have bNum : Binds K dNum ["thing"] [] := FNum.binds fun _ _ _ _ _ _ us hl => match us, hl with | [_], _ => rfl
  have gNum := ok_number (P := P) (w := w) (mg := mg) (base := base) FNum T.isi T.tInt T.tBool
  obtain ⟨fWithin, dWithin, mWithin, FWithin⟩ := W.dWithin.get X G
  have bWithin : Binds K dWithin ["thing", "least", "most"] [] := FWithin.binds fun _ _ _ _ _ _ us hl => match us, hl with | [_, _, _], _ => rfl
  have gWithin := ok_within FWithin gNum FNum.kp bNum mNum
  obtain ⟨fPair, dPair, mPair, FPair⟩ := W.dPair.get X G
  have bPair : Binds K dPair ["thing"] [] := FPair.binds fun _ _ _ _ _ _ us hl => match us, hl with | [_], _ => rfl
  have gPair := ok_pair (P := P) (w := w) (mg := mg) (base := base) FPair T.isi T.tTup T.len
  obtain ⟨fPlain, dPlain, mPlain, FPlain⟩ := W.dPlain.get X G
  have bPlain : Binds K dPlain ["thing"] [] := FPlain.binds fun _ _ _ _ _ _ us hl => match us, hl with | [_], _ => rfl
  have gPlain := ok_plain (P := P) (w := w) (mg := mg) (base := base) FPlain T
  obtain ⟨fSort, dSort, mSort, FSort⟩ := W.dSort.get X G
  have bSort : Binds K dSort ["thing"] [] := FSort.binds fun _ _ _ _ _ _ us hl => match us, hl with | [_], _ => rfl
  have gSort := ok_sort FSort T gPair FPair.kp bPair mPair gPlain FPlain.kp bPlain mPlain
  obtain ⟨fWord, dWord, mWord, FWord⟩ := W.dWord.get X G
  have bWord : Binds K dWord ["thing"] [] := FWord.binds fun _ _ _ _ _ _ us hl => match us, hl with | [_], _ => rfl
  have gWord := ok_word (P := P) (w := w) (mg := mg) (base := base) FWord T
  obtain ⟨fNames, dNames, mNames, FNames⟩ := W.dNames.get X G
  have bNames : Binds K dNames ["thing"] [] := FNames.binds fun _ _ _ _ _ _ us hl => match us, hl with | [_], _ => rfl
  have gNames := ok_names FNames T gWord FWord.kp bWord mWord gSort FSort.kp bSort mSort
  have hiP := W.hi cP (by
    obtain ⟨f, e⟩ : ∃ u, PySem.W.nsIn K mainGlobals "PlayError" = some (some u) := hnP
    have q := PySem.W.mg_of X G e
    rw [mP] at q
    cases q
    exact e)
  have eNt := Ef.errTxt_of (mg := mg) eN nF' pF ncN hiP W.any_ (z W.zSup) W.top_
  have eTt := Ef.errTxt_of (mg := mg) eT tF pF ncT hiP W.any_ (z W.zSup) W.top_
  have ob : Ef.ObjF K := ⟨W.obn, W.obt⟩
  have bS : PySem.W.subIn K (.ref cS) (.type "BaseException") = some true ∧ PySem.W.subIn K (.ref cS) (.ref cP) = some true := by
    obtain ⟨cd, e, h, _⟩ := sF.cl
    exact ⟨Ef.sub_mro e h (by simp) (by simp), Ef.sub_mro e h (by simp) (by simp)⟩
  have bN : PySem.W.subIn K (.ref cN) (.ref cP) = some true := by
    obtain ⟨cd, e, h, _⟩ := nF'.cl
    exact Ef.sub_mro e h (by simp) (by simp)
  have bP : PySem.W.subIn K (.ref cP) (.type "BaseException") = some true ∧ PySem.W.hasDictIn K cP = true := by
    obtain ⟨cd, e, h, hd⟩ := pF.cl
    exact ⟨Ef.sub_mro e h (by simp) (by simp), Ef.has_dict e hd⟩
  have E : Errs P K mg cN fN cS := ⟨mN, eNt, mS, xS, kS, bS.1, sF.ty⟩
  obtain ⟨fChkSize, dChkSize, mChkSize, FChkSize⟩ := W.dChkSize.get X G
  have bChkSize : Binds K dChkSize ["size"] [] := FChkSize.binds fun _ _ _ _ _ _ us hl => match us, hl with | [_], _ => rfl
  have gChkSize := ok_chkSize FChkSize E gWithin FWithin.kp bWithin mWithin
  obtain ⟨fChkNames, dChkNames, mChkNames, FChkNames⟩ := W.dChkNames.get X G
  have bChkNames : Binds K dChkNames ["names"] [] := FChkNames.binds fun _ _ _ _ _ _ us hl => match us, hl with | [_], _ => rfl
  have gChkNames := ok_chkNames FChkNames E gNames FNames.kp bNames mNames
  have CK : Chk P w K mg base cN cS fChkSize fChkNames dChkSize dChkNames := ⟨gChkSize, FChkSize.kp, bChkSize, mChkSize, gChkNames, FChkNames.kp, bChkNames, mChkNames⟩
  obtain ⟨fThing, dThing, mThing, FThing⟩ := W.dThing.get X G
  have bThing : Binds K dThing ["size", "wanted", "thing"] [] := FThing.binds fun _ _ _ _ _ _ us hl => match us, hl with | [_, _, _], _ => rfl
  have gThing := ok_thing FThing T gWithin FWithin.kp bWithin mWithin gWord FWord.kp bWord mWord
  obtain ⟨fUse, dUse, mUse, FUse⟩ := W.dUse.get X G
  have bUse : Binds K dUse ["names", "term"] [] := FUse.binds fun _ _ _ _ _ _ us hl => match us, hl with | [_, _], _ => rfl
  have gUse := ok_use FUse T gWord FWord.kp bWord mWord
  obtain ⟨fForm, dForm, mForm, FForm⟩ := W.dHasForm.get X G
  have bForm : Binds K dForm ["size", "names", "term"] [] := FForm.binds fun _ _ _ _ _ _ us hl => match us, hl with | [_, _, _], _ => rfl
  have gForm := ok_form FForm T TF gUse FUse.kp bUse mUse gThing FThing.kp bThing mThing
  obtain ⟨fWanted, dWanted, mWanted, FWanted⟩ := W.dIsWanted.get X G
  have bWanted : Binds K dWanted ["sort", "wanted", "ahead"] [] := FWanted.binds fun _ _ _ _ _ _ us hl => match us, hl with | [_, _, _], _ => rfl
  have gWanted := ok_isWanted (P := P) (w := w) (mg := mg) (base := base) FWanted
  obtain ⟨fSG, dSG, mSG, FSG⟩ := W.dSortGiven.get X G
  have bSG : Binds K dSG ["names", "term", "sorts"] [] := FSG.binds fun _ _ _ _ _ _ us hl => match us, hl with | [_, _, _], _ => rfl
  have gSG := ok_sortGiven (P := P) (base := base) FSG TG
  obtain ⟨fWS, dWS, mWS, FWS⟩ := W.dWantedSorts.get X G
  have bWS : Binds K dWS ["names", "term"] [] := FWS.binds fun _ _ _ _ _ _ us hl => match us, hl with | [_, _], _ => rfl
  have gWS := ok_wantedSorts (P := P) (base := base) FWS TF
  obtain ⟨fPaths, dPaths, mPaths, FPaths⟩ := W.dPaths.get X G
  have bPaths : Binds K dPaths ["term"] [] := FPaths.binds fun _ _ _ _ _ _ us hl => match us, hl with | [_], _ => rfl
  have gPaths := ok_paths (P := P) (base := base) FPaths TP
  obtain ⟨fGW, dGW, mGW, FGW⟩ := W.dGivenWord.get X G
  have bGW : Binds K dGW ["term", "number"] [] := FGW.binds fun _ _ _ _ _ _ us hl => match us, hl with | [_, _], _ => rfl
  have gGW := ok_gw (P := P) (w := w) (mg := mg) (base := base) FGW
  obtain ⟨aB, aN, ST⟩ := sortTop W X G
  obtain ⟨fNW, dNW, mNW, FNW⟩ := W.dNamesWithin.get X G
  have bNW : Binds K dNW ["names", "term", "number"] [] := FNW.binds fun _ _ _ _ _ _ us hl => match us, hl with | [_, _, _], _ => rfl
  obtain ⟨fPA, dPA, mPA, FPA⟩ := W.dPartAlong.get X G
  have bPA : Binds K dPA ["term", "path"] [] := FPA.binds fun _ _ _ _ _ _ us hl => match us, hl with | [_, _], _ => rfl
  have gNW := ok_nw FNW ST gGW FGW.kp bGW mGW
  have gPA := ok_pa (P := P) (w := w) (mg := mg) (base := base) FPA
  obtain ⟨cL, fLI, dLI, nL, ML, FLI, clL, nsL, nnL⟩ := W.cLook
  have mL := PySem.W.mg_of X G nL
  have bLI : Binds K dLI ["self", "size"] [] := FLI.binds fun _ _ _ _ _ _ us hl => match us, hl with | [_, _], _ => rfl
  obtain ⟨tD, eD⟩ := W.mostD
  obtain ⟨tM, eM⟩ := W.mostM
  have LT : LookTop P K mg cL cT fT := ⟨clL, nsL, nnL, mT, eTt, ⟨tD, PySem.W.mg_of X G eD⟩, ⟨tM, PySem.W.mg_of X G eM⟩, z W.zEnum⟩
  obtain ⟨fSA, dSA, mSA, FSA⟩ := W.dSortAt.get X G
  have bSA : Binds K dSA ["look", "names", "term", "at", "depth"] [] := FSA.binds fun _ _ _ _ _ _ us hl => match us, hl with | [_, _, _, _, _], _ => rfl
  have SA : SaTop P w K mg base fForm fWS fPaths fWanted fSG fNW fPA dForm dWS dPaths dWanted dSG dNW dPA := ⟨gForm, FForm.kp, bForm, mForm, gWS, FWS.kp, bWS, mWS, gPaths, FPaths.kp, bPaths, mPaths, gWanted, FWanted.kp, bWanted, mWanted, gSG, FSG.kp, bSG, mSG, gNW, FNW.kp, bNW, mNW, gPA, FPA.kp, bPA, mPA⟩
  have gSA := ok_sortAt FSA LT mSA bSA SA 12
  have gLI := ok_lookInit (P := P) (w := w) (mg := mg) (base := base) FLI LT
  obtain ⟨fCk, dCk, mCk, FCk⟩ := W.dChecked.get X G
  have bCk : Binds K dCk ["size", "names", "term"] [] := FCk.binds fun _ _ _ _ _ _ us hl => match us, hl with | [_, _, _], _ => rfl
  have gCk := ok_checked FCk ML mL gLI bLI gSA FSA.kp bSA mSA
  obtain ⟨fSO, dSO, mSO, FSO⟩ := W.dSortOf.get X G
  have bSO : Binds K dSO ["size", "names", "term"] [] := FSO.binds fun _ _ _ _ _ _ us hl => match us, hl with | [_, _, _], _ => rfl
  have gSO := ok_sortOfW FSO CK gCk FCk.kp bCk mCk
  obtain ⟨fIT, dIT, mIT, FIT⟩ := W.dIsTerm.get X G
  have bIT : Binds K dIT ["size", "names", "thing"] [] := FIT.binds fun _ _ _ _ _ _ us hl => match us, hl with | [_, _, _], _ => rfl
  have bT : PySem.W.subIn K (.ref cT) (.type "BaseException") = some true ∧ PySem.W.hasDictIn K cT = true ∧ PySem.W.subIn K (.ref cT) (.ref cT) = some true ∧ PySem.W.subIn K (.ref cT) (.ref cP) = some true := by
    obtain ⟨cd, e, h, hd⟩ := tF.cl
    exact ⟨Ef.sub_mro e h (by simp) (by simp), Ef.has_dict e hd, Ef.sub_mro e h (by simp) (by simp), Ef.sub_mro e h (by simp) (by simp)⟩
  have eTT : PySem.W.exmOne K (.ref cT) (.ref cT) = some true := PySem.W.exm_ref bT.1 bT.2.1 tF.ty bT.2.2.1
  have gIT := ok_isTermW FIT CK mT eTT gCk FCk.kp bCk mCk
  obtain ⟨fBe, dBe, mBe, FBe⟩ := W.dBegun.get X G
  have bBe : Binds K dBe ["script"] [] := FBe.binds fun _ _ _ _ _ _ us hl => match us, hl with | [_], _ => rfl
  obtain ⟨fMi, dMi, mMi, FMi⟩ := W.dMixed.get X G
  have bMi : Binds K dMi ["draw"] [] := FMi.binds fun _ _ _ _ _ _ us hl => match us, hl with | [_], _ => rfl
  obtain ⟨fTa, dTa, mTa, FTa⟩ := W.dTake.get X G
  have bTa : Binds K dTa ["draw", "amount"] [] := FTa.binds fun _ _ _ _ _ _ us hl => match us, hl with | [_, _], _ => rfl
  obtain ⟨fPk, dPk, mPk, FPk⟩ := W.dPick.get X G
  have bPk : Binds K dPk ["draw", "some"] [] := FPk.binds fun _ _ _ _ _ _ us hl => match us, hl with | [_, _], _ => rfl
  obtain ⟨fSh, dSh, mSh, FSh⟩ := W.dShuffled.get X G
  have bSh : Binds K dSh ["draw", "some"] [] := FSh.binds fun _ _ _ _ _ _ us hl => match us, hl with | [_, _], _ => rfl
  obtain ⟨fLN, dLN, mLN, FLN⟩ := W.dLawNames.get X G
  have bLN : Binds K dLN ["draw", "many", "most_args"] [] := FLN.binds fun _ _ _ _ _ _ us hl => match us, hl with | [_, _, _], _ => rfl
  have gBe := Dk.ok_begun (P := P) (w := w) (mg := mg) (base := base) FBe (z W.zAbs)
  have gTa := Dk.ok_take (P := P) (w := w) (mg := mg) (base := base) FTa (z W.zInt) FMi bMi mMi
  have gPk := Dk.ok_pick FPk (z W.zLen) gTa FTa.kp bTa mTa
  have gSh := Dk.ok_shuffled FSh (z W.zLen) (z W.zList) gTa FTa.kp bTa mTa
  have gLN := ok_lawNames FLN (z W.zTup) (z W.zRng) gSh FSh.kp bSh mSh gTa FTa.kp bTa mTa gPk FPk.kp bPk mPk
  obtain ⟨fCa, dCa, mCa, FCa⟩ := W.dCaught.get X G
  obtain ⟨fLNodes, dLNodes, mLNodes, FLNodes⟩ := W.dLNodes.get X G
  have bLNodes : Binds K dLNodes ["term_here"] [] := FLNodes.binds fun _ _ _ _ _ _ us hl => match us, hl with | [_], _ => rfl
  obtain ⟨fLParts, dLParts, mLParts, FLParts⟩ := W.dLParts.get X G
  have bLParts : Binds K dLParts ["term_here"] [] := FLParts.binds fun _ _ _ _ _ _ us hl => match us, hl with | [_], _ => rfl
  obtain ⟨fLBoxes, dLBoxes, mLBoxes, FLBoxes⟩ := W.dLBoxes.get X G
  have bLBoxes : Binds K dLBoxes ["names_here"] [] := FLBoxes.binds fun _ _ _ _ _ _ us hl => match us, hl with | [_], _ => rfl
  obtain ⟨fLLeaf, dLLeaf, mLLeaf, FLLeaf⟩ := W.dLLeaf.get X G
  have bLLeaf : Binds K dLLeaf ["draw", "size", "names_here", "sort_here"] [] := FLLeaf.binds fun _ _ _ _ _ _ us hl => match us, hl with | [_, _, _, _], _ => rfl
  obtain ⟨fLCall, dLCall, mLCall, FLCall⟩ := W.dLCall.get X G
  have bLCall : Binds K dLCall ["draw", "size", "names_here", "sort_here", "deep"] [] := FLCall.binds fun _ _ _ _ _ _ us hl => match us, hl with | [_, _, _, _, _], _ => rfl
  obtain ⟨fLTerm, dLTerm, mLTerm, FLTerm⟩ := W.dLTerm.get X G
  have bLTerm : Binds K dLTerm ["draw", "size", "names_here", "sort_here", "deep"] [] := FLTerm.binds fun _ _ _ _ _ _ us hl => match us, hl with | [_, _, _, _, _], _ => rfl
  obtain ⟨fLFine, dLFine, mLFine, FLFine⟩ := W.dLFine.get X G
  have bLFine : Binds K dLFine ["draw", "size", "names_here", "sort_here", "deep"] [] := FLFine.binds fun _ _ _ _ _ _ us hl => match us, hl with | [_, _, _, _, _], _ => rfl
  obtain ⟨fLPlaces, dLPlaces, mLPlaces, FLPlaces⟩ := W.dLPlaces.get X G
  have bLPlaces : Binds K dLPlaces ["term_here", "at"] [] := FLPlaces.binds fun _ _ _ _ _ _ us hl => match us, hl with | [_, _], _ => rfl
  obtain ⟨fLPiece, dLPiece, mLPiece, FLPiece⟩ := W.dLPiece.get X G
  have bLPiece : Binds K dLPiece ["term_here", "at"] [] := FLPiece.binds fun _ _ _ _ _ _ us hl => match us, hl with | [_, _], _ => rfl
  obtain ⟨fLWith, dLWith, mLWith, FLWith⟩ := W.dLWith.get X G
  have bLWith : Binds K dLWith ["term_here", "at", "piece"] [] := FLWith.binds fun _ _ _ _ _ _ us hl => match us, hl with | [_, _, _], _ => rfl
  obtain ⟨fLOdd, dLOdd, mLOdd, FLOdd⟩ := W.dLOdd.get X G
  have bLOdd : Binds K dLOdd ["draw", "size", "names_here", "piece"] [] := FLOdd.binds fun _ _ _ _ _ _ us hl => match us, hl with | [_, _, _, _], _ => rfl
  have gLParts := ok_lparts (P := P) (w := w) (mg := mg) (base := base) FLParts (z W.zList)
  have gLNodes := ok_lnodes FLNodes (z W.zSum) mLNodes bLNodes gLParts FLParts.kp bLParts mLParts
  have gLBoxes := ok_lboxes (P := P) (w := w) (mg := mg) (base := base) FLBoxes (z W.zSorted)
  have hTa : Has P w K mg base CX0 "_law_take" 2 ["draw", "amount"] spTake fTa dTa := ⟨mTa, FTa.kp, gTa, bTa⟩
  have hPk : Has P w K mg base CX0 "_law_pick" 3 ["draw", "some"] (spPick K) fPk dPk := ⟨mPk, FPk.kp, gPk, bPk⟩
  have gLLeaf := ok_lleaf FLLeaf (z W.zSorted) hTa hPk ⟨mLBoxes, FLBoxes.kp, gLBoxes, bLBoxes⟩
  have gLTerm := term_all FLTerm FLCall mLTerm mLCall bLTerm bLCall (z W.zDict) (z W.zList) (z W.zRng) (z W.zSorted) (z W.zTup) hTa hPk ⟨mLLeaf, FLLeaf.kp, gLLeaf, bLLeaf⟩
  have gLFine := ok_lfine FLFine ⟨mLTerm, FLTerm.kp, gLTerm 3, bLTerm⟩ ⟨mLNodes, FLNodes.kp, gLNodes 5, bLNodes⟩
  have gLPlaces := places_all (P := P) (w := w) (mg := mg) (base := base) FLPlaces mLPlaces bLPlaces (z W.zEnum) (z W.zRng) (z W.zLen)
  have gLPiece := ok_lpiece (P := P) (w := w) (mg := mg) (base := base) FLPiece
  have gLWith := with_all (P := P) (w := w) (mg := mg) (base := base) FLWith mLWith bLWith
  have gLOdd := ok_lodd FLOdd (z W.zSorted) (z W.zLen) (z W.zList) hPk
  obtain ⟨cPi, fPi, dPi, nPi, MPi, FPi⟩ := W.cPiece
  have bPi : Binds K dPi ["self", "size", "names", "term"] [] := FPi.binds fun _ _ _ _ _ _ us hl => match us, hl with | [_, _, _, _], _ => rfl
  have gPi := ok_pieceBad FPi CK gCk FCk.kp bCk mCk
  refine ⟨cN, cS, cT, cP, ⟨⟨_, _, mBe, FBe.kp, gBe, bBe⟩, ⟨_, _, hPk⟩, ⟨_, _, hTa⟩, ⟨_, _, mLN, FLN.kp, gLN, bLN⟩, ⟨_, _, mLFine, FLFine.kp, gLFine, bLFine⟩, ⟨_, _, mLPlaces, FLPlaces.kp, gLPlaces 4, bLPlaces⟩, ⟨_, _, mLPiece, FLPiece.kp, gLPiece, bLPiece⟩, ⟨_, _, mLWith, FLWith.kp, gLWith 12, bLWith⟩, ⟨_, _, mLOdd, FLOdd.kp, gLOdd, bLOdd⟩,
    ⟨_, _, mIT, FIT.kp, gIT, bIT⟩, ⟨_, _, mSO, FSO.kp, gSO, bSO⟩, ⟨_, _, _, PySem.W.mg_of X G nPi, MPi, gPi, bPi⟩, z W.zLen, z W.zMin, z W.zRng, z W.zRepr, z W.zIsi⟩, ?_⟩
  exact ⟨⟨_, _, FCa, mCa⟩, mP, mT, PySem.W.exm_ref bP.1 bP.2 pF.ty bT.2.2.2, tF.exc ob, Ef.kit_self, eTt.noN, TB⟩
/-- law's promise at the head's heap -/
theorem lawAt {l : PySem.W.OpenLaw} {fa fL cL pT : Addr} (KX : K.In h) (G : h.Ns mainGlobals mg) (hfa : mg "law" = some (.ref fa)) (own : LamX.OwnTab K fa h) (W : WrE l.prog w K)
    {oc kV doc pm ct : Value} {od an dd : Option Addr} {osl sl : Array (Option Value)} {vs : Array Value} {file : Str} {tf tg tt : Tok} {flags text : Int} {inF : Bool}
    (aL : PySem.W.nsIn K mainGlobals "law" = some (some (.ref fL)))
    (lL : K.lookup fL = some ⟨oc, od, .func (PySem.W.fnOf "law" "law" (defArgs sLaw3) (defBody sLaw3) (defScope sLaw3) .none kV doc pm an (.ref cL) ct), osl⟩) (cd : PySem.W.codeIn K (.ref cL) "law" = true) (kL : PySem.W.keepIn K (.ref fL) = true)
    (lc : K.lookup cL = some ⟨.type "code", dd, .fields vs, sl⟩) (v11 : vs[11]? = some (.ref pT)) (d11 : vs.getD 11 .none = .ref pT) (d18 : vs.getD 18 .none = .str file tf) (d7 : vs.getD 7 .none = .int flags tg) (d9 : vs.getD 9 .none = .bool inF) (d10 : vs.getD 10 .none = .int text tt)
    (ne : cL ≠ pT) (nT : K.lookup pT = none) :
      ∃ (fd : FuncData) (cL pT : Addr) (sp : Sp), h.get? pT = some { cls := .none, data := .fields #[] } ∧ K.lookup pT = none ∧ PySem.W.CodeHd h cL pT ∧ (∀ (s : Shared) (u : Value), BindsTo s fd ⟨[u], []⟩ [("script", u)]) ∧
        (∀ (H : Hp) (a : Addr) (ns : List Int), ns.length ≤ 63 → H pT = some (.tbl #[]) → SqL K H a (ns.map V.int) → sp [.ref a] H (fun v _ => v = .bl true) fun _ _ _ => False) ∧
        ∀ base : Heap, K.In base → base.Ns mainGlobals mg → LamX.TabB base mg cL pT → FnOkG l.prog w K mg base 25 fa fd ["script"] sp := by
  have e := hfa.symm.trans (PySem.W.mg_of KX G aL)
  cases e
  have F := fun_mk (st := sLaw3) lL cd kL
  refine ⟨PySem.W.fnOf "law" "law" (defArgs sLaw3) (defBody sLaw3) (defScope sLaw3) .none kV doc pm an (.ref cL) ct, cL, pT, spLaw K pT, own cL pT _ _ _ _ _ _ lL rfl rfl lc v11, nT, ⟨_, vs, file, tf, flags, tg, inF, text, tt, KX _ _ lc, rfl, rfl, v11, d11, d18, d7, d9, d10, ne⟩, fun s u => .of_eq rfl, fun H a ns hl hH hS => ⟨a, ns, rfl, hS, hl, hH, fun _ => rfl⟩, fun base KB GB TB => ?_⟩
  obtain ⟨cN, cS, cT, cPE, GL, LE⟩ := law_of W KB GB TB
  exact ok_law3 F rfl GL LE
/-- the errors' facts, gathered -/
theorem errs_mk {cP cN cS cT fN fT : Addr} (nP : PySem.W.nsIn K mainGlobals "PlayError" = some (some (.ref cP))) (nN : PySem.W.nsIn K mainGlobals "BadNumber" = some (some (.ref cN))) (nS : PySem.W.nsIn K mainGlobals "BadSort" = some (some (.ref cS))) (nT : PySem.W.nsIn K mainGlobals "BadTerm" = some (some (.ref cT)))
    (pP : Ef.PlayF K cP) (pN : Ef.ClsF K cP cN) (pS : Ef.ClsF K cP cS) (pT : Ef.ClsF K cP cT) (eN : Ef.ErrF P K cN fN "part") (eT : Ef.ErrF P K cT fT "at") (xS : PySem.W.excIn K cS veT "ValueError.__new__" = true) (kS : PySem.W.keepIn K (.ref cS) = true) (ne : cN ≠ cP ∧ cS ≠ cP ∧ cT ≠ cP) :
    ∀ (h : Heap) (mg : Str → Option Value), K.In h → h.Ns mainGlobals mg → ∃ cP cN cS cT fN fT, ErrE P K mg cP cN cS cT fN fT := fun h mg X G =>
  ⟨cP, cN, cS, cT, fN, fT, ⟨PySem.W.mg_of X G nP, PySem.W.mg_of X G nN, PySem.W.mg_of X G nS, PySem.W.mg_of X G nT, _, nP⟩, pP, pN, pS, pT, eN, eT, xS, kS, ne⟩
theorem hi_mk {cP : Addr} (nP : PySem.W.nsIn K mainGlobals "PlayError" = some (some (.ref cP))) (hi : PySem.W.findIn K (.ref cP) "__init__" = some (some (.builtin "ValueError.__init__"))) : ∀ cP, PySem.W.nsIn K mainGlobals "PlayError" = some (some (.ref cP)) → PySem.W.findIn K (.ref cP) "__init__" = some (some (.builtin "ValueError.__init__")) := fun c e => by
  rw [nP] at e
  cases e
  exact hi
theorem look_mk {C f : Addr} {oc : Value} {od an : Option Addr} {osl : Array (Option Value)} {kV doc pm cdv ct : Value} (a : PySem.W.nsIn K mainGlobals "Look" = some (some (.ref C))) (i : PySem.W.findIn K (.ref C) "__init__" = some (some (.ref f)))
    (l : K.lookup f = some ⟨oc, od, .func (PySem.W.fnOf "__init__" "Look.__init__" (defArgs sLookInit) (defBody sLookInit) (defScope sLookInit) .none kV doc pm an cdv ct), osl⟩) (c : PySem.W.codeIn K cdv "Look.__init__" = true) (k : PySem.W.keepIn K (.ref f) = true) (fn : PySem.W.isFn K (.ref f) = true) (mk : PySem.W.makesIn K C = true) (kp : PySem.W.keepIn K (.ref C) = true)
    (pg : PySem.W.plainGet K C Str.empty = true) (hd : PySem.W.hasDictIn K C = true) (po : PySem.W.plainOver K C = true) (sa : PySem.W.findIn K (.ref C) "__setattr__" = some (some (.builtin "object.__setattr__"))) (nS : PySem.W.findIn K (.ref C) "size" = some none) (nN : PySem.W.findIn K (.ref C) "nodes" = some none) :
    ∃ (C f : Addr) (fd : FuncData), PySem.W.nsIn K mainGlobals "Look" = some (some (.ref C)) ∧ Mk K C f ∧ Fun K "__init__" "Look.__init__" sLookInit f fd ∧ Cls K C ∧ NoAttr K C "size" ∧ NoAttr K C "nodes" :=
  ⟨C, f, _, a, ⟨mk, i, fn, kp⟩, fun_mk l c k, ⟨pg, hd, po, sa⟩, nS, nN⟩
theorem con_mk {x : Str} {u : Value} {R : Value → Prop} (a : PySem.W.nsIn K mainGlobals x = some (some u)) (r : R u) : ∃ u, PySem.W.nsIn K mainGlobals x = some (some u) ∧ R u := ⟨u, a, r⟩
theorem int_mk {x : Str} {i : Int} {t : Tok} (a : PySem.W.nsIn K mainGlobals x = some (some (.int i t))) : ∃ t, PySem.W.nsIn K mainGlobals x = some (some (.int i t)) := ⟨t, a⟩
theorem str_mk {x s : Str} {t : Tok} (a : PySem.W.nsIn K mainGlobals x = some (some (.str s t))) : ∃ t, PySem.W.nsIn K mainGlobals x = some (some (.str s t)) := ⟨t, a⟩
theorem pairE_mk {s : Str} {a e : Addr} (h : TupE K [.ref e, .str s] (.ref a)) (h2 : TupE K [] (.ref e)) : PairE K s (.ref a) := ⟨a, e, rfl, h, h2⟩
end
end Jd
open PySem PySem.W PyProof.Rows in
set_option maxRecDepth 100000 in
set_option maxHeartbeats 0 in
theorem PySem.Challenge.cw_playsalike_k03_places_of_wrong_parts_holds : PySem.Challenge.rw_playsalike_k03_places_of_wrong_parts.Holds := by
  w_on; o_law; k_head; (case hw => w_witness2)
  k_fill
  refine L2.walk_guardOwn (l := PySem.Challenge.rw_playsalike_k03_places_of_wrong_parts) (n := 63) (k := 25) (x := "script") rfl (by decide) rfl ⟨rfl, by decide, by decide⟩ (by rfl) (fun w h Y => PySem.W.km_in_of Y) ?F
  case F =>
    intro w mg fa h KX G hmg own
    refine' Jd.lawAt KX G hmg own ?W ?aL ?lL ?cd ?kL ?lc ?v11 ?d11 ?d18 ?d7 ?d9 ?d10 ?ne ?nT
    (case aL => k_is)
    (case lL => k_is)
    (case cd => k_is)
    (case kL => k_is)
    (case lc => k_is)
    (case v11 => rfl)
    (case d11 => rfl)
    (case d18 => rfl)
    (case d7 => rfl)
    (case d9 => rfl)
    (case d10 => rfl)
    (case ne => decide)
    (case nT => rfl)
    (case W =>
      refine' Jd.WrE.mk ?dNumber ?dWithin ?dWord ?dPair ?dChkSize ?dPlain ?dSort ?dNames ?dChkNames ?dPaths ?dGivenWord ?dNamesWithin ?dPartAlong ?dIsTerm ?dSortOf ?dChecked ?dSortAt ?dHasForm ?dUse ?dThing ?dWantedSorts ?dIsWanted ?dSortGiven ?dBegun ?dMixed ?dTake ?dPick ?dShuffled ?dCaught ?dLawNames ?dLNodes ?dLParts ?dLBoxes ?dLLeaf ?dLCall ?dLTerm ?dLFine ?dLPlaces ?dLPiece ?dLWith ?dLOdd ?cPiece ?cLook ?errs ?obn ?obt ?hi ?any_ ?top_ ?zIsi ?zLen ?zAll ?zInt ?zBool ?zStr ?zTup ?zDict ?zList ?zAbs ?zMin ?zRng ?zZip ?zEnum ?zSorted ?zSum ?zRepr ?zSup ?plain ?box_ ?num_ ?signs_ ?mostN ?mostD ?mostM ?forms_ ?given_ ?parts_
      (case dNumber => refine' Wr.defE_mk ?a ?l ?c ?k; (case a => k_is); (case l => k_is); (case c => k_is); (case k => k_is))
      (case dWithin => refine' Wr.defE_mk ?a ?l ?c ?k; (case a => k_is); (case l => k_is); (case c => k_is); (case k => k_is))
      (case dWord => refine' Wr.defE_mk ?a ?l ?c ?k; (case a => k_is); (case l => k_is); (case c => k_is); (case k => k_is))
      (case dPair => refine' Wr.defE_mk ?a ?l ?c ?k; (case a => k_is); (case l => k_is); (case c => k_is); (case k => k_is))
      (case dChkSize => refine' Wr.defE_mk ?a ?l ?c ?k; (case a => k_is); (case l => k_is); (case c => k_is); (case k => k_is))
      (case dPlain => refine' Wr.defE_mk ?a ?l ?c ?k; (case a => k_is); (case l => k_is); (case c => k_is); (case k => k_is))
      (case dSort => refine' Wr.defE_mk ?a ?l ?c ?k; (case a => k_is); (case l => k_is); (case c => k_is); (case k => k_is))
      (case dNames => refine' Wr.defE_mk ?a ?l ?c ?k; (case a => k_is); (case l => k_is); (case c => k_is); (case k => k_is))
      (case dChkNames => refine' Wr.defE_mk ?a ?l ?c ?k; (case a => k_is); (case l => k_is); (case c => k_is); (case k => k_is))
      (case dPaths => refine' Wr.defE_mk ?a ?l ?c ?k; (case a => k_is); (case l => k_is); (case c => k_is); (case k => k_is))
      (case dGivenWord => refine' Wr.defE_mk ?a ?l ?c ?k; (case a => k_is); (case l => k_is); (case c => k_is); (case k => k_is))
      (case dNamesWithin => refine' Wr.defE_mk ?a ?l ?c ?k; (case a => k_is); (case l => k_is); (case c => k_is); (case k => k_is))
      (case dPartAlong => refine' Wr.defE_mk ?a ?l ?c ?k; (case a => k_is); (case l => k_is); (case c => k_is); (case k => k_is))
      (case dIsTerm => refine' Wr.defE_mk ?a ?l ?c ?k; (case a => k_is); (case l => k_is); (case c => k_is); (case k => k_is))
      (case dSortOf => refine' Wr.defE_mk ?a ?l ?c ?k; (case a => k_is); (case l => k_is); (case c => k_is); (case k => k_is))
      (case dChecked => refine' Wr.defE_mk ?a ?l ?c ?k; (case a => k_is); (case l => k_is); (case c => k_is); (case k => k_is))
      (case dSortAt => refine' Wr.defE_mk ?a ?l ?c ?k; (case a => k_is); (case l => k_is); (case c => k_is); (case k => k_is))
      (case dHasForm => refine' Wr.defE_mk ?a ?l ?c ?k; (case a => k_is); (case l => k_is); (case c => k_is); (case k => k_is))
      (case dUse => refine' Wr.defE_mk ?a ?l ?c ?k; (case a => k_is); (case l => k_is); (case c => k_is); (case k => k_is))
      (case dThing => refine' Wr.defE_mk ?a ?l ?c ?k; (case a => k_is); (case l => k_is); (case c => k_is); (case k => k_is))
      (case dWantedSorts => refine' Wr.defE_mk ?a ?l ?c ?k; (case a => k_is); (case l => k_is); (case c => k_is); (case k => k_is))
      (case dIsWanted => refine' Wr.defE_mk ?a ?l ?c ?k; (case a => k_is); (case l => k_is); (case c => k_is); (case k => k_is))
      (case dSortGiven => refine' Wr.defE_mk ?a ?l ?c ?k; (case a => k_is); (case l => k_is); (case c => k_is); (case k => k_is))
      (case dBegun => refine' Wr.defE_mk ?a ?l ?c ?k; (case a => k_is); (case l => k_is); (case c => k_is); (case k => k_is))
      (case dMixed => refine' Wr.defE_mk ?a ?l ?c ?k; (case a => k_is); (case l => k_is); (case c => k_is); (case k => k_is))
      (case dTake => refine' Wr.defE_mk ?a ?l ?c ?k; (case a => k_is); (case l => k_is); (case c => k_is); (case k => k_is))
      (case dPick => refine' Wr.defE_mk ?a ?l ?c ?k; (case a => k_is); (case l => k_is); (case c => k_is); (case k => k_is))
      (case dShuffled => refine' Wr.defE_mk ?a ?l ?c ?k; (case a => k_is); (case l => k_is); (case c => k_is); (case k => k_is))
      (case dCaught => refine' Wr.defE_mk ?a ?l ?c ?k; (case a => k_is); (case l => k_is); (case c => k_is); (case k => k_is))
      (case dLawNames => refine' Wr.defE_mk ?a ?l ?c ?k; (case a => k_is); (case l => k_is); (case c => k_is); (case k => k_is))
      (case dLNodes => refine' Wr.defE_mk ?a ?l ?c ?k; (case a => k_is); (case l => k_is); (case c => k_is); (case k => k_is))
      (case dLParts => refine' Wr.defE_mk ?a ?l ?c ?k; (case a => k_is); (case l => k_is); (case c => k_is); (case k => k_is))
      (case dLBoxes => refine' Wr.defE_mk ?a ?l ?c ?k; (case a => k_is); (case l => k_is); (case c => k_is); (case k => k_is))
      (case dLLeaf => refine' Wr.defE_mk ?a ?l ?c ?k; (case a => k_is); (case l => k_is); (case c => k_is); (case k => k_is))
      (case dLCall => refine' Wr.defE_mk ?a ?l ?c ?k; (case a => k_is); (case l => k_is); (case c => k_is); (case k => k_is))
      (case dLTerm => refine' Wr.defE_mk ?a ?l ?c ?k; (case a => k_is); (case l => k_is); (case c => k_is); (case k => k_is))
      (case dLFine => refine' Wr.defE_mk ?a ?l ?c ?k; (case a => k_is); (case l => k_is); (case c => k_is); (case k => k_is))
      (case dLPlaces => refine' Wr.defE_mk ?a ?l ?c ?k; (case a => k_is); (case l => k_is); (case c => k_is); (case k => k_is))
      (case dLPiece => refine' Wr.defE_mk ?a ?l ?c ?k; (case a => k_is); (case l => k_is); (case c => k_is); (case k => k_is))
      (case dLWith => refine' Wr.defE_mk ?a ?l ?c ?k; (case a => k_is); (case l => k_is); (case c => k_is); (case k => k_is))
      (case dLOdd => refine' Wr.defE_mk ?a ?l ?c ?k; (case a => k_is); (case l => k_is); (case c => k_is); (case k => k_is))
      (case cPiece => refine' Wr.clsE_mk ?a ?i ?l ?c ?k ?fn ?mk ?kp; (case a => k_is); (case i => k_is); (case l => k_is); (case c => k_is); (case k => k_is); (case fn => k_is); (case mk => k_is); (case kp => k_is))
      (case cLook => refine' Jd.look_mk ?a ?i ?l ?c ?k ?fn ?mk ?kp ?pg ?hd ?po ?sa ?nS ?nN; (case a => k_is); (case i => k_is); (case l => k_is); (case c => k_is); (case k => k_is); (case fn => k_is); (case mk => k_is); (case kp => k_is); (case pg => k_is); (case hd => k_is); (case po => k_is); (case sa => k_is); (case nS => k_is); (case nN => k_is))
      (case errs => refine' Jd.errs_mk ?nP ?nN ?nS ?nT ?pP ?pN ?pS ?pT ?eN ?eT ?xS ?kS ?ne; (case nP => k_is); (case nN => k_is); (case nS => k_is); (case nT => k_is); (case pP => refine' Ef.playF_mk ?e ?m ?d ?t ?a ?b ?c; (case e => k_is); (case m => rfl); (case d => rfl); (case t => k_is); (case a => k_is); (case b => k_is); (case c => k_is)); (case pN => refine' Ef.clsF_mk ?e ?m ?d ?t ?a ?b ?c; (case e => k_is); (case m => rfl); (case d => rfl); (case t => k_is); (case a => k_is); (case b => k_is); (case c => k_is)); (case pS => refine' Ef.clsF_mk ?e ?m ?d ?t ?a ?b ?c; (case e => k_is); (case m => rfl); (case d => rfl); (case t => k_is); (case a => k_is); (case b => k_is); (case c => k_is)); (case pT => refine' Ef.clsF_mk ?e ?m ?d ?t ?a ?b ?c; (case e => k_is); (case m => rfl); (case d => rfl); (case t => k_is); (case a => k_is); (case b => k_is); (case c => k_is)); (case eN => refine' Ef.errF_mk ?xL ?rf ?sa ?eC ?tC ?kC ?iC ?tI ?noN ?l ?cI ?lc ?ld ?v2 ?fl ?ln ?po; (case xL => k_is); (case rf => decide +kernel); (case sa => k_is); (case eC => k_is); (case tC => k_is); (case kC => k_is); (case iC => k_is); (case tI => k_is); (case noN => k_is); (case l => k_is); (case cI => k_is); (case lc => k_is); (case ld => k_is); (case v2 => rfl); (case fl => decide +kernel); (case ln => decide +kernel); (case po => exact Er.pn_part)); (case eT => refine' Ef.errF_mk ?xL ?rf ?sa ?eC ?tC ?kC ?iC ?tI ?noN ?l ?cI ?lc ?ld ?v2 ?fl ?ln ?po; (case xL => k_is); (case rf => decide +kernel); (case sa => k_is); (case eC => k_is); (case tC => k_is); (case kC => k_is); (case iC => k_is); (case tI => k_is); (case noN => k_is); (case l => k_is); (case cI => k_is); (case lc => k_is); (case ld => k_is); (case v2 => rfl); (case fl => decide +kernel); (case ln => decide +kernel); (case po => exact Er.pn_at)); (case xS => k_exc); (case kS => k_is); (case ne => decide))
      (case obn => k_is)
      (case obt => k_is)
      (case hi => refine' Jd.hi_mk ?nP ?hi; (case nP => k_is); (case hi => k_is))
      (case any_ => k_is)
      (case top_ => decide +kernel)
      (case zIsi => k_is)
      (case zLen => k_is)
      (case zAll => k_is)
      (case zInt => k_is)
      (case zBool => k_is)
      (case zStr => k_is)
      (case zTup => k_is)
      (case zDict => k_is)
      (case zList => k_is)
      (case zAbs => k_is)
      (case zMin => k_is)
      (case zRng => k_is)
      (case zZip => k_is)
      (case zEnum => k_is)
      (case zSorted => k_is)
      (case zSum => k_is)
      (case zRepr => k_is)
      (case zSup => k_is)
      (case plain => refine' Jd.con_mk ?a ?r; (case a => k_is); (case r => refine' Wr.tupE_mk ?l ?z ?v; (case l => k_is); (case z => decide); (case v => repeat (first | exact .nil | refine' .cons ⟨_, rfl⟩ ?_))))
      (case box_ => refine' Jd.con_mk ?a ?r; (case a => k_is); (case r => refine' Jd.pairE_mk ?h ?h2; (case h => refine' Wr.tupE_mk ?l ?z ?v; (case l => k_is); (case z => decide); (case v => exact .cons rfl (.cons ⟨_, rfl⟩ .nil))); (case h2 => refine' Wr.tupE_mk ?l ?z ?v; (case l => k_is); (case z => decide); (case v => exact .nil))))
      (case num_ => refine' Jd.con_mk ?a ?r; (case a => k_is); (case r => refine' Jd.pairE_mk ?h ?h2; (case h => refine' Wr.tupE_mk ?l ?z ?v; (case l => k_is); (case z => decide); (case v => exact .cons rfl (.cons ⟨_, rfl⟩ .nil))); (case h2 => refine' Wr.tupE_mk ?l ?z ?v; (case l => k_is); (case z => decide); (case v => exact .nil))))
      (case signs_ => refine' Jd.str_mk ?a; (case a => k_is))
      (case mostN => refine' Jd.int_mk ?a; (case a => k_is))
      (case mostD => refine' Jd.int_mk ?a; (case a => k_is))
      (case mostM => refine' Jd.int_mk ?a; (case a => k_is))
      (case forms_ => refine' Wr.dictE_mk ?a ?l ?k ?o ?r; (case a => k_is); (case l => k_is); (case k => k_keys); (case o => decide); (case r => refine' .cons ?_ (.cons ?_ (.cons ?_ (.cons ?_ (.cons ?_ (.cons ?_ (.cons ?_ (.cons ?_ (.cons ?_ (.cons ?_ (.cons ?_ (.cons ?_ (.cons ?_ (.cons ?_ (.cons ?_ (.cons ?_ (.nil)))))))))))))))); all_goals (refine' Wr.tupE_mk ?l ?z ?v; (case l => k_is); (case z => decide); (case v => repeat (first | exact .nil | refine' .cons ⟨_, rfl⟩ ?_)))))
      (case given_ => refine' Wr.dictE_mk ?a ?l ?k ?o ?r; (case a => k_is); (case l => k_is); (case k => k_keys); (case o => decide); (case r => refine' .cons ?_ (.cons ?_ (.cons ?_ (.cons ?_ (.cons ?_ (.cons ?_ (.cons ?_ (.cons ?_ (.cons ?_ (.cons ?_ (.cons ?_ (.cons ?_ (.nil)))))))))))); all_goals (exact ⟨_, rfl⟩)))
      (case parts_ => refine' Wr.dictE_mk ?a ?l ?k ?o ?r; (case a => k_is); (case l => k_is); (case k => k_keys); (case o => decide); (case r => refine' .cons ?_ (.cons ?_ (.cons ?_ (.cons ?_ (.cons ?_ (.cons ?_ (.cons ?_ (.cons ?_ (.cons ?_ (.cons ?_ (.cons ?_ (.cons ?_ (.cons ?_ (.cons ?_ (.cons ?_ (.cons ?_ (.nil)))))))))))))))); all_goals (refine' Wr.tupE_mk ?l ?z ?v; (case l => k_is); (case z => decide); (case v => repeat (first | exact .nil | refine' .cons ⟨_, rfl⟩ ?_))))))
