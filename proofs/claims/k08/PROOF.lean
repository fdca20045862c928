import PyProof.Rows.All
import Wide.All
import OpenK.AllK
import Wide.FinOn
import HandS.Base
import HandS.Call
import HandS.List
import HandS.Comp
import HandS.Ends
import HandS.Dict
import HandS.Iter
import HandS.Text
import HandS.Words
import HandS.WordsList
import HandS.StrMore
import HandS.Wide
import HandS.IsInst
import HandS.Walk
import HandS.Codes
import PySem.Challenge.RW_playstead_k08_names
set_option Elab.async false
set_option linter.all false
set_option maxRecDepth 100000
namespace K08
open PySem PySem.Spec PyProof.Rows L2
def topS (i : Nat) : Stmt := PySem.Challenge.pw_playstead_k08_names.main.body.getD i (.Pass ⟨0, 0, 0, 0⟩)
abbrev s_law_take : Stmt := topS 4
theorem sc_law_take : FnScope ["draw", "size", "cells", "at", "cell"] ["draw", "size"] (defScope s_law_take) := ⟨rfl, rfl, rfl, by decide +kernel, rfl, by decide +kernel, by decide +kernel⟩
structure TM (mg : Str → Option Value) : Prop where
  m_len : mg "len" = none
  m_isinstance : mg "isinstance" = none
  m_str : mg "str" = none
  m_bool : mg "bool" = none
  m_range : mg "range" = none
  m_abs : mg "abs" = none

/-! ### the draw -/
/-- the drawing state: its list at d, its numbers at c -/
def DrC (H : Hp) (d c : Addr) : Prop := d ≠ c ∧ ∃ (a b : Int) (ns : List Int), H d = some (.lst [.ref c, .int a, .int b]) ∧ H c = some (.lst (ns.map V.int)) ∧ 0 < ns.length ∧ ns.length ≤ 63 ∧ (∀ n ∈ ns, 0 ≤ n) ∧ 0 ≤ a ∧ 0 ≤ b ∧ b < 2147483647
/-- all but the draw stands as it stood -/
def Kp (d c : Addr) (H H' : Hp) : Prop := ∀ b o, b ≠ d → b ≠ c → H b = some o → H' b = some o
theorem Kp.refl {d c : Addr} {H : Hp} : Kp d c H H := fun _ _ _ _ h => h
theorem Kp.trans {d c : Addr} {H H1 H2 : Hp} (x : Kp d c H H1) (y : Kp d c H1 H2) : Kp d c H H2 := fun b o h1 h2 h => y b o h1 h2 (x b o h1 h2 h)
theorem Kp.of_same {d c : Addr} {H H1 : Hp} (x : Same H H1) : Kp d c H H1 := fun b o _ _ h => x b o h
theorem Kp.new {d c p : Addr} {H : Hp} {o : HO} (h : H p = none) : Kp d c H (upd H p o) := fun b u _ _ e => by
  rw [upd_ne (ne_of_none e h)]
  exact e
theorem DrC.get {H : Hp} {d c : Addr} (x : DrC H d c) : ∃ o, H d = some o := let ⟨_, _, _, _, h, _⟩ := x; ⟨_, h⟩
theorem DrC.nd {H : Hp} {d c p : Addr} (x : DrC H d c) (h : H p = none) : p ≠ d := let ⟨_, _, _, _, e, _⟩ := x; (ne_of_none e h).symm
theorem DrC.nc {H : Hp} {d c p : Addr} (x : DrC H d c) (h : H p = none) : p ≠ c := let ⟨_, _, _, _, _, e, _⟩ := x; (ne_of_none e h).symm
theorem DrC.upd {H : Hp} {d c p : Addr} {o : HO} (x : DrC H d c) (h1 : p ≠ d) (h2 : p ≠ c) : DrC (upd H p o) d c := by
  obtain ⟨n, a, b, ns, hd, hc, r⟩ := x
  exact ⟨n, a, b, ns, by rw [upd_ne h1.symm]; exact hd, by rw [upd_ne h2.symm]; exact hc, r⟩
theorem DrC.new {H : Hp} {d c p : Addr} {o : HO} (x : DrC H d c) (h : H p = none) : DrC (L2.upd H p o) d c := x.upd (x.nd h) (x.nc h)
theorem DrC.tup {H : Hp} {d c p : Addr} {xs : List V} (x : DrC H d c) (h : H p = some (.tup xs)) : p ≠ d ∧ p ≠ c := by
  obtain ⟨n, a, b, ns, hd, hc, r⟩ := x
  exact ⟨ne_of h hd (by intro z; cases z), ne_of h hc (by intro z; cases z)⟩

/-! ### the promises -/
def spTake : Sp := fun vs H Q _ => ∃ (d c : Addr) (n : Int), vs = [.ref d, .int n] ∧ DrC H d c ∧ 0 < n ∧ n ≤ 1000000 ∧ ∀ v H', 0 ≤ v → v < n → DrC H' d c → Kp d c H H' → Q (.int v) H'
section
variable {P : Program} {w : World} {K : PySem.W.Frag} {mg : Str → Option Value} {base : Heap}
theorem ok_take {f : Addr} {fd : FuncData} {k : Nat} (F : Fun K "_law_take" "_law_take" s_law_take f fd) (T : TM mg) : FnOk P w K mg base CX0 (k + 1) f fd ["draw", "size"] spTake := by
  refine F.ok sc_law_take (fun vs H Q E h => ?_) (fun cdv A outer s H vs Q E hr h => ?_)
  · obtain ⟨d, c, n, rfl, _⟩ := h
    rfl
  · obtain ⟨d, c, n, rfl, ⟨ndc, a, b, ns, hd, hc, l0, l63, hp, a0, b0, b1⟩, n0, n1, q⟩ := h
    refine ⟨_, (pss_cons (ps_set (i := 2) sc_law_take.nd rfl (.inl rfl) (pe_ix ix_list (pv 0) pe_int (fun _ _ => rfl)))
      (pss_cons (ps_set (i := 3) sc_law_take.nd rfl (.inl rfl) (pe_op op_modN (pe_ix ix_list (pv 0) pe_int (fun _ _ => rfl)) (pe_callB call_len_seq (by rfl) T.m_len (by decide +kernel) (pa_cons (pv 2) pa_nil))))
      (pss_cons (ps_set (i := 4) sc_law_take.nd rfl (.inl rfl) (pe_ix ix_list (pv 2) (pv 3) (fun _ _ => rfl)))
      (pss_cons (ps_if (pt_cmpR op_ge (pv 4) (pe_op op_pow pe_int pe_int) (nomark _))
        (pss_cons (ps_asg (pe_op op_fdivW (pv 4) (pv 1)) (pg_sub (pv 2) (pv 3) set_list))
      (pss_one (ps_ret (pe_op op_modN (pv 4) (pv 1)))))
        pss_nil)
      (pss_cons (ps_asg (pe_op op_add (pe_ix ix_list (pv 0) pe_int (fun _ _ => rfl)) pe_int) (pg_sub (pv 0) pe_int set_list))
      (pss_cons (ps_asg (pe_op op_modN (pe_op op_add (pe_op op_add (pe_op op_mul (pe_ix ix_list (pv 0) pe_int (fun _ _ => rfl)) pe_int) (pv 4)) pe_int) pe_int) (pg_sub (pv 0) pe_int set_list))
      (pss_one (ps_ret (pe_op op_modN (pe_op op_fdivN (pe_op op_modN (pe_op op_mul (pe_ix ix_list (pv 0) pe_int (fun _ _ => rfl)) (pe_ix ix_list (pv 0) pe_int (fun _ _ => rfl))) pe_int) pe_int) (pv 1)))))))))), ?_⟩
    refine ⟨_, rfl, d, _, 0, .ref c, rfl, rfl, SqL.of hd, rfl, ?_⟩
    refine ⟨_, rfl, d, _, 1, .int a, rfl, rfl, SqL.of hd, rfl, _, rfl, c, _, rfl, .inl (SqL.of hc), _, _, rfl, rfl, ?_, ?_⟩
    · rw [List.length_map]; omega
    have hl : (0 : Int) < (ns.length : Int) := by omega
    have m0 : 0 ≤ a.fmod (ns.length : Int) := Int.fmod_nonneg a0 (by omega)
    have m1 : a.fmod (ns.length : Int) < (ns.length : Int) := Int.fmod_lt_of_pos a hl
    obtain ⟨j, ej⟩ : ∃ j : Nat, a.fmod (ns.length : Int) = (j : Int) := ⟨(a.fmod (ns.length : Int)).toNat, by omega⟩
    have ej' : a.fmod ((ns.map V.int).length : Int) = (j : Int) := by rw [List.length_map]; exact ej
    rw [ej] at m0 m1
    have jl : j < ns.length := by omega
    have gj : (ns.map V.int)[j]? = some (.int ns[j]) := by
      rw [List.getElem?_map, List.getElem?_eq_getElem jl]
      rfl
    have zj : 0 ≤ ns[j] := hp _ (List.getElem_mem jl)
    refine ⟨_, rfl, _, rfl, c, _, _, .int ns[j], rfl, rfl, SqL.of hc, at_of ej' gj, ?_⟩
    generalize ns[j] = x at gj zj
    refine ⟨_, rfl, 10, 18, rfl, rfl, ⟨by decide, by decide, by decide⟩, x, _, rfl, rfl, _, rfl, ?_⟩
    refine ite2 (fun hx => ?_) (fun hx => ?_)
    · refine ⟨_, rfl, _, rfl, x, n, rfl, rfl, wide_div (b := 30) n0 (by omega) (by decide) (by decide), ?_⟩
      refine ⟨_, rfl, _, rfl, c, _, _, j, rfl, rfl, hc, ?_, ?_⟩
      · show ixN (ns.map V.int).length (a.fmod ((ns.map V.int).length : Int)) = some j
        rw [ej']
        unfold ixN
        rw [if_pos (by omega), if_pos (by rw [List.length_map]; omega)]
        rfl
      refine ⟨_, rfl, _, rfl, x, n, rfl, rfl, by omega, ?_⟩
      refine q _ _ (Int.fmod_nonneg zj (by omega)) (Int.fmod_lt_of_pos x n0) ⟨ndc, a, b, ns.set j (x / n), ?_, ?_, ?_, ?_, ?_, a0, b0, b1⟩ ?_
      · rw [upd_ne ndc]; exact hd
      · rw [upd_same, List.map_set]
      · rw [List.length_set]; exact l0
      · rw [List.length_set]; exact l63
      · intro y hy
        rcases List.mem_or_eq_of_mem_set hy with h | h
        · exact hp y h
        · rw [h]; exact Int.ediv_nonneg zj (by omega)
      · intro z o h1 h2 h3
        rw [upd_ne h2]; exact h3
    · have hx1 : x < 1000000000000000000 := by
        refine Int.not_le.mp fun z => hx (decide_eq_true ?_)
        exact z
      refine ⟨_, rfl, d, _, 1, .int a, rfl, rfl, SqL.of hd, rfl, a, 1, rfl, rfl, _, rfl, d, _, 1, 1, rfl, rfl, hd, rfl, ?_⟩
      refine ⟨_, rfl, d, _, 2, .int b, rfl, rfl, SqL.of upd_same, rfl, b, _, rfl, rfl, .inl ⟨by omega, by omega⟩, _, rfl, _, x, rfl, rfl, _, _, rfl, rfl, _, _, rfl, rfl, (by show (2147483647 : Int) ≠ 0; decide), _, rfl, d, _, 2, 2, rfl, rfl, upd_same, rfl, ?_⟩
      rw [upd_upd]
      have b2 : 0 ≤ (b * 48271 + x + 12345).fmod 2147483647 := Int.fmod_nonneg (by omega) (by decide)
      have b3 : (b * 48271 + x + 12345).fmod 2147483647 < 2147483647 := Int.fmod_lt_of_pos _ (by decide)
      refine ⟨_, rfl, d, _, 2, .int ((b * 48271 + x + 12345).fmod 2147483647), rfl, rfl, SqL.of upd_same, rfl, _, rfl, d, _, 2, .int ((b * 48271 + x + 12345).fmod 2147483647), rfl, rfl, SqL.of upd_same, rfl, _, _, rfl, rfl, .inl ⟨by omega, by omega⟩, _, _, rfl, rfl, (by show (2147483629 : Int) ≠ 0; decide), _, _, rfl, rfl, ⟨by decide, by decide⟩, _, rfl, _, n, rfl, rfl, by omega, ?_⟩
      refine q _ _ (Int.fmod_nonneg ?_ (by omega)) (Int.fmod_lt_of_pos _ n0) ⟨ndc, a + 1, _, ns, upd_same, ?_, l0, l63, hp, by omega, b2, b3⟩ ?_
      · have h1 := Int.fmod_nonneg (Int.mul_nonneg b2 b2) (show (0 : Int) ≤ 2147483629 by decide)
        rw [Int.fdiv_eq_ediv_of_nonneg _ (by decide)]
        exact Int.ediv_nonneg h1 (by decide)
      · rw [upd_ne ndc.symm]; exact hc
      · intro z o h1 h2 h3
        rw [upd_ne h1]; exact h3
end
end K08
namespace K08
open PySem PySem.Spec PyProof.Rows L2
abbrev s_law_begin : Stmt := topS 3
theorem sc_law_begin : FnScope ["script", "cells", "cell"] ["script"] (defScope s_law_begin) := ⟨rfl, rfl, rfl, by decide +kernel, rfl, by decide +kernel, by decide +kernel⟩
abbrev s_law_pick : Stmt := topS 5
theorem sc_law_pick : FnScope ["draw", "some"] ["draw", "some"] (defScope s_law_pick) := ⟨rfl, rfl, rfl, by decide +kernel, rfl, by decide +kernel, by decide +kernel⟩
theorem Kp.seq {K : PySem.W.Frag} {d c a : Addr} {H H' : Hp} {xs : List V} (e : Kp d c H H') (h1 : a ≠ d) (h2 : a ≠ c) (h : SqL K H a xs) : SqL K H' a xs := by
  rcases h with (h | ⟨o, h⟩) | h
  · exact .inl (.inl (e _ _ h1 h2 h))
  · exact .inl (.inr ⟨o, e _ _ h1 h2 h⟩)
  · exact .inr h
theorem new_same {H : Hp} {p : Addr} {o : HO} (h : H p = none) : Same H (upd H p o) := fun b x e => by
  rw [upd_ne (ne_of_none e h)]
  exact e
/-- x may be drawn from: a list, or a text -/
def Some1 (K : PySem.W.Frag) (H : Hp) (d c : Addr) (x : V) (R : V → Prop) : Prop :=
  (∃ p xs, x = .ref p ∧ SqL K H p xs ∧ p ≠ d ∧ p ≠ c ∧ 0 < xs.length ∧ xs.length ≤ 1000 ∧ ∀ v ∈ xs, R v) ∨
  (∃ z : Str, x = .str z ∧ 0 < z.length ∧ z.length ≤ 1000 ∧ ∀ u ∈ z.cps.toList, R (.str ⟨#[u]⟩))
def spPick (K : PySem.W.Frag) : Sp := fun vs H Q _ => ∃ (d c : Addr) (x : V) (R : V → Prop), vs = [.ref d, x] ∧ DrC H d c ∧ Some1 K H d c x R ∧ ∀ v H', R v → DrC H' d c → Kp d c H H' → Q v H'
def spBegin (K : PySem.W.Frag) : Sp := fun vs H Q _ => ∃ (s : Addr) (ns : List Int), vs = [.ref s] ∧ SqL K H s (ns.map V.int) ∧ ns.length ≤ 63 ∧ ∀ d c H', DrC H' d c → Same H H' → Q (.ref d) H'
theorem cut63 (xs : List V) (h : xs.length ≤ 63) : cutV xs none (some 63) = xs := by
  unfold cutV
  rw [show HT.sIx xs.length xs.length (some 63) = min 63 xs.length from HT.sIx_nat xs.length _ 63, HT.sIx_none]
  rw [show min 63 xs.length = xs.length by omega]
  show (xs.drop 0).take (xs.length - 0) = xs
  rw [List.drop_zero, Nat.sub_zero, List.take_length]
theorem dp_ints {K : PySem.W.Frag} {H : Hp} : ∀ ms : List Int, DpAll K H (ms.map V.int) (ms.map PyData.int)
  | [] => .nil
  | m :: r => .cons (.int m) (dp_ints r)
theorem sh_ints (ms : List Int) : SeqAt.shaped (.list (ms.map PyData.int)) = true := PySem.W.ke_shaped_ints ms
section
variable {P : Program} {w : World} {K : PySem.W.Frag} {mg : Str → Option Value} {base : Heap}
theorem ok_pick {f f_take : Addr} {fd fd_take : FuncData} (F : Fun K "_law_pick" "_law_pick" s_law_pick f fd) (T : TM mg) (F_law_take : Fun K "_law_take" "_law_take" s_law_take f_take fd_take) (b_law_take : Binds K fd_take ["draw", "size"] [])
    (g_law_take : mg "_law_take" = some (.ref f_take)) : FnOk P w K mg base CX0 2 f fd ["draw", "some"] (spPick K) := by
  have G_law_take : FnOk P w K mg base CX0 1 f_take fd_take ["draw", "size"] spTake := ok_take F_law_take T
  refine F.ok sc_law_pick (fun vs H Q E h => ?_) (fun cdv A outer s H vs Q E hr h => ?_)
  · obtain ⟨d, c, x, R, rfl, _⟩ := h
    rfl
  · obtain ⟨d, c, x, R, rfl, D, S, q⟩ := h
    refine ⟨_, (pss_one (ps_ret (pe_ix ix_seq (pv 1) (pe_call G_law_take (hr.mono (by decide)) (by rfl) g_law_take F_law_take.kp b_law_take .nil pass0 (pa_cons (pv 0) (pa_cons (pe_callB call_len (by rfl) T.m_len (by decide +kernel) (pa_cons (pv 1) pa_nil)) pa_nil))) (fun _ _ => rfl)))), ?_⟩
    rcases S with ⟨p, xs, rfl, hS, n1, n2, l0, l1, hR⟩ | ⟨z, rfl, l0, l1, hR⟩
    · refine ⟨_, rfl, _, rfl, _, rfl, _, xs.length, rfl, .inl ⟨xs, hS, rfl⟩, d, c, _, rfl, D, by omega, by omega, fun v H' v0 v1 D' k => ?_⟩
      obtain ⟨j, rfl⟩ : ∃ j : Nat, v = (j : Int) := ⟨v.toNat, by omega⟩
      have jl : j < xs.length := by omega
      exact .inl ⟨p, xs, _, _, rfl, rfl, k.seq n1 n2 hS, atI_nat (List.getElem?_eq_getElem jl), q _ _ (hR _ (List.getElem_mem jl)) D' k⟩
    · refine ⟨_, rfl, _, rfl, _, rfl, _, z.length, rfl, ⟨Nat.le_of_lt (small1000 l1), rfl⟩, d, c, _, rfl, D, by omega, by omega, fun v H' v0 v1 D' k => ?_⟩
      obtain ⟨j, rfl⟩ : ∃ j : Nat, v = (j : Int) := ⟨v.toNat, by omega⟩
      have jl : j < z.cps.toList.length := by
        have e : z.length = z.cps.toList.length := rfl
        omega
      exact .inr (.inr ⟨z, _, z.cps.toList[j], rfl, rfl, Nat.le_of_lt (small1000 l1), atI_nat (List.getElem?_eq_getElem jl), q _ _ (hR _ (List.getElem_mem jl)) D' k⟩)
theorem ok_begin {f : Addr} {fd : FuncData} {k : Nat} (F : Fun K "_law_begin" "_law_begin" s_law_begin f fd) (T : TM mg) : FnOk P w K mg base CX0 (k + 1) f fd ["script"] (spBegin K) := by
  refine F.ok sc_law_begin (fun vs H Q E h => ?_) (fun cdv A outer s H vs Q E hr h => ?_)
  · obtain ⟨a, ns, rfl, _⟩ := h
    rfl
  · obtain ⟨a, ns, rfl, hS, l63, q⟩ := h
    refine ⟨_, (pss_cons (ps_setLc (i := 1) (own := [("cell", 2)]) (g := gName 2) rfl sc_law_begin.nd rfl rfl (sw_true rfl rfl rfl (by decide +kernel)) (pi_list (pe_slice sl_list (pv 0) po_none (po_some pe_int))) (blkOk_by (own := [("cell", 2)]) (N := ["script", "cells", "cell"]) (sc := defScope s_law_begin) (by decide +kernel)) (fun _ _ _ _ _ => pg_name (i := 2) sc_law_begin.nd rfl (Or.inl rfl)) (fun _ _ _ _ _ => pts_nil) (fun _ _ _ _ _ => (pe_callB call_abs (by rfl) T.m_abs (by decide +kernel) (pa_cons (pv 2) pa_nil))))
      (pss_cons (ps_if (pt_cmpR (op_eqD hr.units) (pv 1) (pe_lst pa_nil) (nomark _))
        (pss_one (ps_set (i := 1) sc_law_begin.nd rfl (.inl rfl) (pe_lst (pa_cons pe_int pa_nil))))
        pss_nil)
      (pss_one (ps_ret (pe_lst (pa_cons (pv 1) (pa_cons pe_int (pa_cons pe_int pa_nil)))))))), ?_⟩
    refine ⟨.ref a, rfl, 63, rfl, a, ns.map V.int, rfl, hS, fun p np => ?_⟩
    rw [cut63 _ (by rw [List.length_map]; exact l63)]
    refine ⟨p, rfl, ⟨_, SqL.of upd_same⟩, fun D nD => ?_⟩
    have npD : p ≠ D := fun e => by
      rw [← e, upd_same] at nD
      cases nD
    have hD0 : H D = none := by
      rw [upd_ne npD.symm] at nD
      exact nD
    refine lc_list (K := K) (a := p) (xs := ns.map V.int) (fun i H' => Same H H' ∧ H' p = some (.lst (ns.map V.int)) ∧ H' D = some (.lst ((ns.take i).map fun n => V.int (if n < 0 then -n else n))))
      ⟨(new_same np).trans (new_same nD), by rw [upd_ne npD, upd_same], upd_same⟩ (fun i H' _ h => SqL.of h.2.1) ?_ ?_
    · rintro i x H' hi ⟨sm, hp, hD⟩
      obtain ⟨n, hn, rfl⟩ : ∃ n, ns[i]? = some n ∧ V.int n = x := by
        rw [List.getElem?_map] at hi
        cases e : ns[i]? with
        | none =>
          rw [e] at hi
          cases hi
        | some u =>
          rw [e] at hi
          exact ⟨u, rfl, Option.some.inj hi⟩
      refine ⟨rfl, ?_⟩
      skip
      refine ⟨_, rfl, _, rfl, _, hD, ?_, fun b o e => ?_, ?_, ?_⟩
      · rw [List.length_map, List.length_take]
        exact small1000 (by omega)
      · have nb : b ≠ D := ne_of_none e hD0
        rw [upd_ne nb]
        exact sm _ _ e
      · rw [upd_ne npD]
        exact hp
      · rw [upd_same, List.take_add_one, hn, List.map_append]
        rfl
    · rintro H' ⟨sm, hp, hD⟩
      have eT : (ns.take (ns.map V.int).length) = ns := by
        rw [List.length_map, List.take_length]
      rw [eT] at hD
      have hm : (ns.map fun n => V.int (if n < 0 then -n else n)) = (ns.map fun n => (if n < 0 then -n else n : Int)).map V.int := by
        rw [List.map_map]
        rfl
      rw [hm] at hD
      have hpos : ∀ m ∈ (ns.map fun n => (if n < 0 then -n else n : Int)), 0 ≤ m := by
        intro m hm
        obtain ⟨n, _, rfl⟩ := List.mem_map.mp hm
        split <;> omega
      have hlen : (ns.map fun n => (if n < 0 then -n else n : Int)).length ≤ 63 := by
        rw [List.length_map]
        exact l63
      generalize (ns.map fun n => (if n < 0 then -n else n : Int)) = ms at hD hpos hlen
      refine ⟨.ref D, rfl, Nat.zero_le _, fun e ne => ?_⟩
      have nDe : D ≠ e := ne_of_none hD ne
      refine ⟨.list (ms.map PyData.int), .list [], .lst (SqL.of (by rw [upd_ne nDe]; exact hD)) (dp_ints ms), .lst (SqL.of upd_same) .nil, sh_ints ms, rfl, _, rfl, ite2 (fun hx => ?_) (fun hx => ?_)⟩
      · refine ⟨Nat.le_of_lt (small1000 (by decide)), fun g ng => ?_⟩
        refine ⟨.ref g, rfl, Nat.le_of_lt (small1000 (show 3 ≤ 1000 by decide)), fun r nr => ?_⟩
        refine q r g _ ⟨(ne_of_none upd_same nr).symm, 0, 1, [7], upd_same, ?_, by decide, by decide, ?_, by decide, by decide, by decide⟩ (((sm.trans (new_same ne)).trans (new_same ng)).trans (new_same nr))
        · rw [upd_ne (ne_of_none upd_same nr), upd_same]
          rfl
        · intro n hn
          rw [List.mem_singleton.mp hn]
          decide
      · refine ⟨.ref D, rfl, Nat.le_of_lt (small1000 (show 3 ≤ 1000 by decide)), fun r nr => ?_⟩
        have hD2 : upd H' e (.lst []) D = some (.lst (ms.map V.int)) := by
          rw [upd_ne nDe]; exact hD
        refine q r D _ ⟨(ne_of_none hD2 nr).symm, 0, 1, ms, upd_same, ?_, ?_, hlen, hpos, by decide, by decide, by decide⟩ ((sm.trans (new_same ne)).trans (new_same nr))
        · rw [upd_ne (ne_of_none hD2 nr)]
          exact hD2
        · cases ms with
          | nil => exact absurd rfl hx
          | cons m r => exact Nat.succ_pos _
end
end K08
namespace K08
open PySem PySem.Spec PyProof.Rows L2
abbrev s_is_name : Stmt := topS 1
theorem sc_is_name : FnScope ["thing"] ["thing"] (defScope s_is_name) := ⟨rfl, rfl, rfl, by decide +kernel, rfl, by decide +kernel, by decide +kernel⟩
abbrev s_law_due : Stmt := topS 8
theorem sc_law_due : FnScope ["some", "sign"] ["some"] (defScope s_law_due) := ⟨rfl, rfl, rfl, by decide +kernel, rfl, by decide +kernel, by decide +kernel⟩
/-! ### names -/
def az (c : Nat) : Bool := decide (97 ≤ c) && decide (c ≤ 122)
def nameB (z : Str) : Bool := decide (1 ≤ z.length) && decide (z.length ≤ 8) && z.cps.toList.all az
def isNm : V → Bool
  | .str z => nameB z
  | _ => false
theorem asc_az : ∀ c : Nat, c < 128 → (Unicode.isAlpha c && !(Unicode.isUpper c || Unicode.isTitle c)) = az c := by decide +kernel
theorem az_low : ∀ c : Nat, c < 128 → az c = true → Unicode.isLower c = true ∧ Unicode.isAlpha c = true ∧ (Unicode.isUpper c || Unicode.isTitle c) = false := by decide +kernel
theorem az_lt {c : Nat} (h : az c = true) : c < 128 := by
  unfold az at h
  rw [Bool.and_eq_true] at h
  have := of_decide_eq_true h.2
  omega
theorem name_txt (z : Str) (h : 1 ≤ z.length) : (Txt.isascii z && (Txt.isalpha z && Txt.islower z)) = z.cps.toList.all az := by
  have hl : z.length = z.cps.toList.length := rfl
  unfold Txt.isascii Txt.isalpha Txt.islower
  rw [← Array.all_toList, ← Array.all_toList, ← Array.any_toList, ← Array.any_toList]
  have hp : (decide (z.length > 0)) = true := decide_eq_true h
  rw [hp, Bool.true_and]
  rw [hl] at h
  generalize z.cps.toList = cs at h ⊢
  rw [Bool.eq_iff_iff]
  simp only [Bool.and_eq_true, List.all_eq_true, List.any_eq_true, Bool.not_eq_true', decide_eq_true_eq, List.any_eq_false]
  constructor
  · rintro ⟨h1, h2, _, h4⟩ c hc
    rw [← asc_az c (h1 c hc), h2 c hc, Bool.true_and]
    have := h4 c hc
    cases e : (Unicode.isUpper c || Unicode.isTitle c) with
    | true => exact absurd e this
    | false => rfl
  · intro h1
    refine ⟨fun c hc => az_lt (h1 c hc), fun c hc => (az_low c (az_lt (h1 c hc)) (h1 c hc)).2.1, ?_, fun c hc => ?_⟩
    · cases cs with
      | nil => exact absurd h (by decide)
      | cons c r => exact ⟨c, List.mem_cons_self, (az_low c (az_lt (h1 c List.mem_cons_self)) (h1 c List.mem_cons_self)).1⟩
    · rw [(az_low c (az_lt (h1 c hc)) (h1 c hc)).2.2]
      decide
/-- the things that are asked of: texts, and what is surely no text -/
inductive Kd (H : Hp) : V → String → Prop where
  | non : Kd H .non "NoneType"
  | bl (b : Bool) : Kd H (.bl b) "bool"
  | int (i : Int) : Kd H (.int i) "int"
  | lst {a : Addr} {xs : List V} (e : H a = some (.lst xs)) : Kd H (.ref a) "list"
  | tup {a : Addr} {xs : List V} (e : H a = some (.tup xs)) : Kd H (.ref a) "tuple"
  | dK {a : Addr} {xs : List (Key × V)} (e : H a = some (.dK xs)) : Kd H (.ref a) "dict"
theorem Kd.ty {K : PySem.W.Frag} {H : Hp} {x : V} {nm : String} (h : Kd H x nm) : TyX K H x (.type nm) ∧ kitB nm "str" = some false ∧ isNm x = false := by
  cases h with
  | non => exact ⟨.base .non, by decide +kernel, rfl⟩
  | bl b => exact ⟨.base (.bl b), by decide +kernel, rfl⟩
  | int i => exact ⟨.base (.int i), by decide +kernel, rfl⟩
  | lst e => exact ⟨.base (.lst e), by decide +kernel, rfl⟩
  | tup e => exact ⟨.base (.tup e), by decide +kernel, rfl⟩
  | dK e => exact ⟨.base (.dK e), by decide +kernel, rfl⟩
theorem Kd.mono {H H' : Hp} {x : V} {nm : String} (h : Kd H x nm) (k : ∀ a o, x = .ref a → H a = some o → H' a = some o) : Kd H' x nm := by
  cases h with
  | non => exact .non
  | bl b => exact .bl b
  | int i => exact .int i
  | lst e => exact .lst (k _ _ rfl e)
  | tup e => exact .tup (k _ _ rfl e)
  | dK e => exact .dK (k _ _ rfl e)
def KindV (K : PySem.W.Frag) (H : Hp) (x : V) : Prop :=
  (∃ z, x = .str z ∧ z.length ≤ 1000 ∧ z.cps.toList.all (fun c => decide (c < 128)) = true) ∨ (∃ nm, Kd H x nm)
def spIsName (K : PySem.W.Frag) : Sp := fun vs H Q _ => ∃ x, vs = [x] ∧ KindV K H x ∧ Q (.bl (isNm x)) H
def spDue (K : PySem.W.Frag) : Sp := fun vs H Q _ => ∃ x, vs = [x] ∧ KindV K H x ∧ ∀ H', Same H H' → Q (.bl (isNm x)) H'
section
variable {P : Program} {w : World} {K : PySem.W.Frag} {mg : Str → Option Value} {base : Heap}
theorem ok_is_name {f : Addr} {fd : FuncData} {k : Nat} (F : Fun K "is_name" "is_name" s_is_name f fd) (T : TM mg) : FnOk P w K mg base CX0 (k + 1) f fd ["thing"] (spIsName K) := by
  refine F.ok sc_is_name (fun vs H Q E h => ?_) (fun cdv A outer s H vs Q E hr h => ?_)
  · obtain ⟨x, rfl, _⟩ := h
    rfl
  · obtain ⟨x, rfl, S, q⟩ := h
    refine ⟨_, (pss_one (ps_ret (pe_and (pe_callB call_isi (by rfl) T.m_isinstance (by decide +kernel) (pa_cons (pv 0) (pa_cons (pe_bltn (v := .ty "str") (by rfl) T.m_str (by decide +kernel) rfl) pa_nil))) (pe_and (pe_chain op_le op_le pe_int (pe_callB call_len (by rfl) T.m_len (by decide +kernel) (pa_cons (pv 0) pa_nil)) pe_int) (pe_and (pe_bm0 PySem.F.plainAttrs_str PySem.F.slot_str_isascii PySem.F.type_str_isascii mt_isascii (pv 0)) (pe_and (pe_bm0 PySem.F.plainAttrs_str PySem.F.slot_str_isalpha PySem.F.type_str_isalpha mt_isalpha (pv 0)) (pe_one (pe_bm0 PySem.F.plainAttrs_str PySem.F.slot_str_islower PySem.F.type_str_islower mt_islower (pv 0))))))))), ?_⟩
    rcases S with ⟨z, rfl, hz, _⟩ | ⟨nm, kd⟩
    · have hz2 : z.length ≤ sizeLine := Nat.le_of_lt (small1000 hz)
      have q' : Q (.bl (nameB z)) H := q
      unfold nameB at q'
      refine ⟨_, rfl, .str z, .ty "str", _, _, true, rfl, .ty _, .base (.str z), kit_ty (by decide +kernel), true, rfl, ?_⟩
      refine ⟨_, rfl, .str z, _, rfl, ⟨hz2, rfl⟩, 1, _, rfl, rfl, _, rfl, ite2 (fun h1 => ?_) (fun h1 => ?_)⟩
      · have h1' : 1 ≤ z.length := by
          have := of_decide_eq_true h1
          omega
        rw [decide_eq_true h1', ← name_txt z h1', Bool.true_and] at q'
        refine ⟨_, _, rfl, rfl, _, rfl, ite2 (fun h2 => ?_) (fun h2 => ?_)⟩
        · have h2' : z.length ≤ 8 := by
            have := of_decide_eq_true h2
            omega
          rw [decide_eq_true h2', Bool.true_and] at q'
          refine ⟨_, rfl, rfl, z, rfl, rfl, trivial, _, rfl, ite2 (fun h3 => ?_) (fun h3 => ?_)⟩
          · rw [h3, Bool.true_and] at q'
            refine ⟨_, rfl, rfl, z, rfl, rfl, trivial, _, rfl, ite2 (fun h4 => ?_) (fun h4 => ?_)⟩
            · rw [h4, Bool.true_and] at q'
              exact ⟨_, rfl, rfl, z, rfl, rfl, trivial, q'⟩
            · rw [Bool.not_eq_true] at h4
              rw [h4, Bool.false_and] at q'
              exact q'
          · rw [Bool.not_eq_true] at h3
            rw [h3, Bool.false_and] at q'
            exact q'
        · have h2' : ¬ z.length ≤ 8 := fun t => h2 (decide_eq_true (by omega))
          rw [decide_eq_false h2', Bool.false_and] at q'
          exact q'
      · have h1' : ¬ 1 ≤ z.length := fun t => h1 (decide_eq_true (by omega))
        rw [decide_eq_false h1', Bool.false_and, Bool.false_and] at q'
        exact ⟨false, rfl, q'⟩
    · obtain ⟨ty, hk, e⟩ := kd.ty (K := K)
      rw [e] at q
      exact ⟨_, rfl, x, .ty "str", _, _, false, rfl, .ty _, ty, kit_ty hk, false, rfl, q⟩
/-! ### the law's own look -/
theorem abc_list : (Str.ofString "abcdefghijklmnopqrstuvwxyz").cps.toList = List.range' 97 26 := by decide +kernel
theorem abc_mem (c : Nat) : decide (c ∈ (Str.ofString "abcdefghijklmnopqrstuvwxyz").cps.toList) = az c := by
  rw [abc_list, Bool.eq_iff_iff, decide_eq_true_eq, List.mem_range'_1]
  unfold az
  rw [Bool.and_eq_true, decide_eq_true_eq, decide_eq_true_eq]
  omega
def sgn (c : Nat) : Str := ⟨#[c]⟩
theorem dp_strs {K : PySem.W.Frag} {H : Hp} : ∀ zs : List Str, DpAll K H (zs.map V.str) (zs.map PyData.str)
  | [] => .nil
  | m :: r => .cons (.str m) (dp_strs r)
theorem can_strs : ∀ zs : List Str, (∀ z ∈ zs, PyData.strOk z = true) → PyData.canLayAll0 (zs.map PyData.str) = true
  | [], _ => by simp [PyData.canLayAll0]
  | z :: r, h => by simp [PyData.canLayAll0, PyData.canLay0, h z List.mem_cons_self, can_strs r fun y hy => h y (List.mem_cons_of_mem _ hy)]
theorem dep_strs : ∀ zs : List Str, PyData.depthAll (zs.map PyData.str) = 0
  | [] => rfl
  | _ :: r => by simp [PyData.depthAll, PyData.depth, dep_strs r]
theorem sh_strs {zs : List Str} (h : ∀ z ∈ zs, PyData.strOk z = true) : SeqAt.shaped (.list (zs.map PyData.str)) = true := by
  simp [SeqAt.shaped, PyData.canLay0, PyData.depth, can_strs zs h, dep_strs]
theorem eqv_strs_nil (zs : List Str) : PyData.eqv (.list (zs.map PyData.str)) (.list []) = zs.isEmpty := by
  cases zs <;> rfl
theorem filt_nil (cs : List Nat) : ((cs.filter fun c => !az c).map sgn).isEmpty = cs.all az := by
  rw [List.isEmpty_map]
  induction cs with
  | nil => rfl
  | cons c r ih =>
    rw [List.filter_cons, List.all_cons]
    cases e : az c with
    | true => simpa [e] using ih
    | false => simp [e]
theorem ok_due {f : Addr} {fd : FuncData} {k : Nat} (F : Fun K "_law_due" "_law_due" s_law_due f fd) (T : TM mg) : FnOk P w K mg base CX0 (k + 1) f fd ["some"] (spDue K) := by
  refine F.ok sc_law_due (fun vs H Q E h => ?_) (fun cdv A outer s H vs Q E hr h => ?_)
  · obtain ⟨x, rfl, _⟩ := h
    rfl
  · obtain ⟨x, rfl, S, q⟩ := h
    refine ⟨_, (pss_cons (ps_if (pt_not (pt_val (pe_callB call_isi (by rfl) T.m_isinstance (by decide +kernel) (pa_cons (pv 0) (pa_cons (pe_bltn (v := .ty "str") (by rfl) T.m_str (by decide +kernel) rfl) pa_nil)))))
        (pss_one (ps_ret pe_bl))
        pss_nil)
      (pss_one (ps_ret (pe_and (pe_chain op_lt op_lt pe_int (pe_callB call_len_str (by rfl) T.m_len (by decide +kernel) (pa_cons (pv 0) pa_nil)) pe_int) (pe_one (pe_cmpR (op_eqD hr.units) (pe_lc (own := [("sign", 1)]) (g := gName 1) rfl sc_law_due.nd (pi_str (pv 0)) (blkOk_by (own := [("sign", 1)]) (N := ["some", "sign"]) (sc := defScope s_law_due) (by decide +kernel)) (fun _ _ _ _ _ => pg_name (i := 1) sc_law_due.nd rfl (Or.inl rfl)) (fun _ _ _ _ _ => (pts_one (pt_cmpR op_notIn_sign (pv 1) pe_str rfl))) (fun _ _ _ _ _ => (pv 1))) (pe_lst pa_nil) (nomark _))))))), ?_⟩
    rcases S with ⟨z, rfl, hz, hz3⟩ | ⟨nm, kd⟩
    · have hz2 : z.length ≤ sizeLine := Nat.le_of_lt (small1000 hz)
      refine ⟨_, rfl, .str z, .ty "str", _, _, true, rfl, .ty _, .base (.str z), kit_ty (by decide +kernel), true, rfl, ?_⟩
      have q' : ∀ H', Same H H' → Q (.bl (nameB z)) H' := q
      unfold nameB at q'
      refine ⟨.str z, rfl, z, rfl, hz2, 0, _, rfl, rfl, _, rfl, ite2 (fun h1 => ?_) (fun h1 => ?_)⟩
      · have h1' : 1 ≤ z.length := by
          have := of_decide_eq_true h1
          omega
        rw [decide_eq_true h1', Bool.true_and] at q'
        refine ⟨_, _, rfl, rfl, _, rfl, ite2 (fun h2 => ?_) (fun h2 => ?_)⟩
        · have h2' : z.length ≤ 8 := by
            have := of_decide_eq_true h2
            omega
          rw [decide_eq_true h2', Bool.true_and] at q'
          refine ⟨.str z, rfl, z, rfl, fun D nD => ?_⟩
          refine lc_it walk_str (fun i H' => Same H H' ∧ H' D = some (.lst ((((z.cps.toList.take i).filter fun c => !az c).map sgn).map V.str))) ⟨new_same nD, upd_same⟩ (fun _ _ _ _ => trivial) ?_ ?_
          · rintro i x H1 H2 hi ⟨sm, hD⟩ ⟨rfl, c, hc, rfl⟩
            have hc' : z.cps.toList[i]? = some c := by
              rw [Array.getElem?_toList]
              exact hc
            have et : z.cps.toList.take (i + 1) = z.cps.toList.take i ++ [c] := by
              rw [List.take_add_one, hc']
              rfl
            refine ⟨rfl, ?_⟩
            refine ⟨_, rfl, c, _, rfl, rfl, _, rfl, ?_⟩
            rw [abc_mem, et, List.filter_append]
            refine ite2 (fun hn => ?_) (fun hn => ?_)
            · refine ⟨_, rfl, _, hD, ?_, fun b o e => ?_, ?_⟩
              · rw [List.length_map, List.length_map]
                refine small1000 (Nat.le_trans (List.length_filter_le _ _) ?_)
                rw [List.length_take]
                have : z.length = z.cps.toList.length := rfl
                omega
              · rw [upd_ne (ne_of_none e nD)]
                exact sm _ _ e
              · rw [upd_same]
                have ef : [c].filter (fun c => !az c) = [c] := by
                  rw [List.filter_cons, if_pos hn]
                  rfl
                rw [ef, List.map_append, List.map_append]
                rfl
            · refine ⟨sm, ?_⟩
              have ef : [c].filter (fun c => !az c) = [] := by
                rw [List.filter_cons, if_neg hn]
                rfl
              rw [ef, List.append_nil]
              exact hD
          · rintro H1 ⟨sm, hD⟩
            have ea : z.cps.toList.take z.cps.size = z.cps.toList := by
              rw [← Array.length_toList, List.take_length]
            rw [ea] at hD
            refine ⟨Nat.zero_le _, fun e ne => ?_⟩
            have nDe : D ≠ e := ne_of_none hD ne
            refine ⟨_, _, .lst (SqL.of (by rw [upd_ne nDe]; exact hD)) (dp_strs _), .lst (SqL.of upd_same) .nil, sh_strs ?_, rfl, ?_⟩
            · intro y hy
              obtain ⟨c, hc, rfl⟩ := List.mem_map.mp hy
              have h8 := List.all_eq_true.mp hz3 c (List.mem_filter.mp hc).1
              have h9 := of_decide_eq_true h8
              show (#[c].all fun c => decide (c < 0x110000)) = true
              simp
              omega
            · rw [eqv_strs_nil, filt_nil]
              exact q' _ (sm.trans (new_same ne))
        · have h2' : ¬ z.length ≤ 8 := fun t => h2 (decide_eq_true (by omega))
          rw [decide_eq_false h2', Bool.false_and] at q'
          exact q' _ (Same.refl _)
      · have h1' : ¬ 1 ≤ z.length := fun t => h1 (decide_eq_true (by omega))
        rw [decide_eq_false h1', Bool.false_and, Bool.false_and] at q'
        exact ⟨false, rfl, q' _ (Same.refl _)⟩
    · obtain ⟨ty, hk, e⟩ := kd.ty (K := K)
      rw [e] at q
      exact ⟨_, rfl, x, .ty "str", _, _, false, rfl, .ty _, ty, kit_ty hk, false, rfl, q _ (Same.refl _)⟩
end
end K08
namespace K08
open PySem PySem.Spec PyProof.Rows L2
abbrev s_law_names : Stmt := topS 6
theorem sc_law_names : FnScope ["draw", "many", "own", "found", "k", "word", "some", "j", "one"] ["draw", "many"] (defScope s_law_names) := ⟨rfl, rfl, rfl, by decide +kernel, rfl, by decide +kernel, by decide +kernel⟩
/-! ### words, the mathematics -/
theorem name_iff {z : Str} : nameB z = true ↔ 1 ≤ z.cps.toList.length ∧ z.cps.toList.length ≤ 8 ∧ ∀ c ∈ z.cps.toList, az c = true := by
  unfold nameB
  rw [Bool.and_eq_true, Bool.and_eq_true, decide_eq_true_eq, decide_eq_true_eq, List.all_eq_true, and_assoc]
  rfl
theorem str_ext {x y : Str} (h : x.cps.toList = y.cps.toList) : x = y := by
  cases x; cases y
  congr 1
  exact Array.toList_inj.mp h
theorem join_sgn (e : Str) (he : e.cps.toList = []) (cs : List Nat) : (Txt.join e (cs.map sgn)).cps.toList = cs := by
  rw [TL.join_eq]
  show TL.tl _ = cs
  rw [TL.tl_join, show TL.tl e = [] from he]
  have : ∀ l : List Nat, TL.joinL [] ((l.map sgn).map TL.tl) = l := by
    intro l
    induction l with
    | nil => rfl
    | cons a r ih =>
      cases r with
      | nil => rfl
      | cons b t =>
        show [a] ++ ([] ++ TL.joinL [] (((b :: t).map sgn).map TL.tl)) = a :: b :: t
        rw [ih]
        rfl
  exact this cs
theorem join_az {e : Str} (he : e.cps.toList = []) {cs : List Nat} (h : ∀ c ∈ cs, az c = true) (h1 : 1 ≤ cs.length) (h8 : cs.length ≤ 8) : nameB (Txt.join e (cs.map sgn)) = true := by
  rw [name_iff, join_sgn e he cs]
  exact ⟨h1, h8, h⟩
theorem sum_sgn : ∀ cs : List Nat, ((cs.map sgn).map (·.length)).sum = cs.length
  | [] => rfl
  | c :: r => by
    rw [List.map_cons, List.map_cons, List.sum_cons, sum_sgn r, List.length_cons]
    show 1 + r.length = r.length + 1
    omega
/-- the j-th other word of a word that stands already -/
def qz : List Nat := [113, 122, 120, 106]
def am : List Nat := List.range' 97 13
def alt (z : Str) (j : Nat) : Str := (cutS z none (some 6) ++ sgn (qz.getD (j / 13) 0)) ++ sgn (am.getD (j % 13) 0)
theorem cut6 (z : Str) : (cutS z none (some 6)).cps.toList = z.cps.toList.take 6 := by
  unfold cutS
  have hl : z.length = z.cps.toList.length := rfl
  rw [show HT.sIx z.length z.length (some 6) = min 6 z.length from HT.sIx_nat z.length _ 6, HT.sIx_none]
  show ((z.cps.toList.drop 0).take (min 6 z.length - 0)) = z.cps.toList.take 6
  rw [List.drop_zero, Nat.sub_zero, hl]
  rcases Nat.le_total 6 z.cps.toList.length with h | h
  · rw [Nat.min_eq_left h]
  · rw [Nat.min_eq_right h, List.take_length, List.take_of_length_le h]
theorem alt_list (z : Str) (j : Nat) : (alt z j).cps.toList = z.cps.toList.take 6 ++ [qz.getD (j / 13) 0, am.getD (j % 13) 0] := by
  unfold alt
  rw [PySem.Str.cps_append, PySem.Str.cps_append, Array.toList_append, Array.toList_append, cut6, List.append_assoc]
  rfl
theorem alt_az : ∀ j : Nat, j < 52 → az (qz.getD (j / 13) 0) = true ∧ az (am.getD (j % 13) 0) = true := by decide +kernel
theorem alt_name {z : Str} (h : nameB z = true) {j : Nat} (hj : j < 52) : nameB (alt z j) = true := by
  rw [name_iff] at h ⊢
  rw [alt_list]
  obtain ⟨h1, h2, h3⟩ := h
  refine ⟨?_, ?_, fun c hc => ?_⟩
  · rw [List.length_append]
    show 1 ≤ _ + 2
    omega
  · rw [List.length_append, List.length_take]
    show min 6 z.cps.toList.length + 2 ≤ 8
    omega
  · rcases List.mem_append.mp hc with hc | hc
    · exact h3 c (List.mem_of_mem_take hc)
    · rcases List.mem_cons.mp hc with hc | hc
      · rw [hc]; exact (alt_az j hj).1
      · rw [List.mem_singleton.mp hc]; exact (alt_az j hj).2
theorem alt_pair : ∀ i : Nat, i < 52 → ∀ j : Nat, j < 52 → qz.getD (i / 13) 0 = qz.getD (j / 13) 0 → am.getD (i % 13) 0 = am.getD (j % 13) 0 → i = j := by decide +kernel
theorem alt_inj {z : Str} {i j : Nat} (hi : i < 52) (hj : j < 52) (e : alt z i = alt z j) : i = j := by
  have e2 : (alt z i).cps.toList = (alt z j).cps.toList := by rw [e]
  rw [alt_list, alt_list] at e2
  have e3 := List.append_cancel_left e2
  exact alt_pair i hi j hj (List.cons.inj e3).1 (List.cons.inj (List.cons.inj e3).2).1
def alts (z : Str) : List Str := (List.range 52).map (alt z)
theorem nodup_map_range {α : Type} {f : Nat → α} : ∀ n : Nat, (∀ i j, i < n → j < n → f i = f j → i = j) → ((List.range n).map f).Nodup
  | 0, _ => List.nodup_nil
  | n + 1, h => by
    rw [List.range_succ, List.map_append]
    refine List.nodup_append.mpr ⟨nodup_map_range n fun i j hi hj e => h i j (by omega) (by omega) e, by simp, fun a ha b hb e => ?_⟩
    obtain ⟨i, hi, rfl⟩ := List.mem_map.mp ha
    obtain rfl := List.mem_singleton.mp hb
    have hi' := List.mem_range.mp hi
    have := h i n (by omega) (by omega) e
    omega
theorem len_sub {α : Type} [DecidableEq α] : ∀ (xs ys : List α), xs.Nodup → (∀ x ∈ xs, x ∈ ys) → xs.length ≤ ys.length
  | [], _, _, _ => Nat.zero_le _
  | x :: r, ys, h, hs => by
    have hx := hs x List.mem_cons_self
    have h2 := List.nodup_cons.mp h
    have := len_sub r (ys.erase x) h2.2 fun y hy => (List.mem_erase_of_ne (by rintro rfl; exact h2.1 hy)).mpr (hs y (List.mem_cons_of_mem _ hy))
    rw [List.length_erase_of_mem hx] at this
    have hp : 0 < ys.length := List.length_pos_of_mem hx
    rw [List.length_cons]
    omega
/-- of 52 other words one stands not among fewer than 52 -/
theorem alt_new (z : Str) (zs : List Str) (h : zs.length < 52) : ∃ y r, (alts z).filter (fun a => !decide (a ∈ zs)) = y :: r ∧ y ∉ zs ∧ ∃ j, j < 52 ∧ y = alt z j := by
  cases e : (alts z).filter (fun a => !decide (a ∈ zs)) with
  | nil =>
    exfalso
    have hs : ∀ x ∈ alts z, x ∈ zs := fun x hx => by
      by_cases q : x ∈ zs
      · exact q
      · have : x ∈ (alts z).filter (fun a => !decide (a ∈ zs)) := List.mem_filter.mpr ⟨hx, by simp [q]⟩
        rw [e] at this
        cases this
    have := len_sub _ _ (nodup_map_range (f := alt z) 52 fun i j hi hj q => alt_inj hi hj q) hs
    rw [List.length_map, List.length_range] at this
    omega
  | cons y r =>
    have hy : y ∈ (alts z).filter (fun a => !decide (a ∈ zs)) := by rw [e]; exact List.mem_cons_self
    obtain ⟨h1, h2⟩ := List.mem_filter.mp hy
    obtain ⟨j, hj, rfl⟩ := List.mem_map.mp h1
    exact ⟨_, _, rfl, by simpa using h2, j, List.mem_range.mp hj, rfl⟩
theorem inV_strs (z : Str) : ∀ zs : List Str, inV (.str z) (zs.map V.str) = decide (z ∈ zs)
  | [] => rfl
  | y :: r => by
    have ih := inV_strs z r
    unfold inV at ih ⊢
    rw [List.map_cons, List.any_cons, ih]
    show ((y == z) || decide (z ∈ r)) = decide (z ∈ y :: r)
    rw [Bool.eq_iff_iff, Bool.or_eq_true, decide_eq_true_eq, decide_eq_true_eq, List.mem_cons, beq_iff_eq]
    constructor
    · rintro (h | h)
      · exact .inl h.symm
      · exact .inr h
    · rintro (h | h)
      · exact .inl h.symm
      · exact .inr h
theorem flat_strs (zs : List Str) : (zs.map V.str).all flatV = true := by
  rw [List.all_map]
  exact List.all_eq_true.mpr fun _ _ => rfl
def ownZ : List Str := ["move", "by", "when", "then", "any", "end", "is", "put", "add", "give", "even", "over", "rule", "most"]
theorem own_name : ∀ z ∈ ownZ, nameB z = true := by decide +kernel
theorem Kp.none {d c p : Addr} {H H' : Hp} (k : Kp d c H H') (h1 : p ≠ d) (h2 : p ≠ c) (h : H' p = Option.none) : H p = Option.none := by
  cases e : H p with
  | none => rfl
  | some u =>
    rw [k p u h1 h2 e] at h
    cases h
theorem qz_list : (Str.ofString "qzxj").cps.toList = qz := by decide +kernel
theorem am_list : (Str.ofString "abcdefghijklm").cps.toList = am := by decide +kernel
theorem qz_at (k : Nat) (h : k < 4) : (Str.ofString "qzxj").cps.toList[k]? = some (qz.getD k 0) := by
  rw [qz_list]
  exact (show ∀ k : Nat, k < 4 → qz[k]? = some (qz.getD k 0) by decide +kernel) k h
theorem am_at (k : Nat) (h : k < 13) : (Str.ofString "abcdefghijklm").cps.toList[k]? = some (am.getD k 0) := by
  rw [am_list]
  exact (show ∀ k : Nat, k < 13 → am[k]? = some (am.getD k 0) by decide +kernel) k h
theorem len_app (x y : Str) : (x ++ y).length = x.length + y.length := by
  show (x ++ y).cps.size = x.cps.size + y.cps.size
  rw [PySem.Str.cps_append, Array.size_append]
theorem at_ofA {α : Type} {xs : List α} {z : Int} {j : Nat} {v : α} (e : z = (j : Int)) (h : xs[j]? = some v) : atI xs z = some v := by
  rw [e]
  exact atI_nat h
/-! ### the promise -/
def spNames : Sp := fun vs H Q _ => ∃ (d c : Addr) (m : Nat), vs = [.ref d, .int m] ∧ DrC H d c ∧ m ≤ 20 ∧
  ∀ (p : Addr) (zs : List Str) H', DrC H' d c → Kp d c H H' → H p = none → p ≠ d → p ≠ c → H' p = some (.lst (zs.map V.str)) → zs.length = m → zs.Nodup → (∀ z ∈ zs, nameB z = true) → Q (.ref p) H'
/-- what holds in the loop -/
structure NInv (H H' : Hp) (d c o p : Addr) (zs : List Str) : Prop where
  dr : DrC H' d c
  kp : Kp d c H H'
  ho : H' o = some (.lst (ownZ.map V.str))
  hp : H' p = some (.lst (zs.map V.str))
  nd : zs.Nodup
  nm : ∀ z ∈ zs, nameB z = true
theorem NInv.go {H H' H2 : Hp} {d c o p : Addr} {zs : List Str} (I : NInv H H' d c o p zs) (od : o ≠ d) (oc : o ≠ c) (pd : p ≠ d) (pc : p ≠ c) (D : DrC H2 d c) (k : Kp d c H' H2) : NInv H H2 d c o p zs :=
  ⟨D, I.kp.trans k, k _ _ od oc I.ho, k _ _ pd pc I.hp, I.nd, I.nm⟩
theorem NInv.new {H H' : Hp} {d c o p D : Addr} {zs : List Str} {u : HO} (I : NInv H H' d c o p zs) (nD : H' D = none) : NInv H (upd H' D u) d c o p zs :=
  ⟨I.dr.new nD, I.kp.trans (Kp.new nD), by rw [upd_ne (ne_of_none I.ho nD)]; exact I.ho, by rw [upd_ne (ne_of_none I.hp nD)]; exact I.hp, I.nd, I.nm⟩
section
variable {P : Program} {w : World} {K : PySem.W.Frag} {mg : Str → Option Value} {base : Heap}
theorem ok_names {f f_law_take f_law_pick : Addr} {fd fd_take fd_pick : FuncData} (F : Fun K "_law_names" "_law_names" s_law_names f fd) (T : TM mg)
    (F_law_take : Fun K "_law_take" "_law_take" s_law_take f_law_take fd_take) (b_law_take : Binds K fd_take ["draw", "size"] []) (g_law_take : mg "_law_take" = some (.ref f_law_take))
    (F_law_pick : Fun K "_law_pick" "_law_pick" s_law_pick f_law_pick fd_pick) (b_law_pick : Binds K fd_pick ["draw", "some"] []) (g_law_pick : mg "_law_pick" = some (.ref f_law_pick)) : FnOk P w K mg base CX0 3 f fd ["draw", "many"] spNames := by
  have G_law_take : FnOk P w K mg base CX0 1 f_law_take fd_take ["draw", "size"] spTake := ok_take F_law_take T
  have G_law_pick : FnOk P w K mg base CX0 2 f_law_pick fd_pick ["draw", "some"] (spPick K) := ok_pick F_law_pick T F_law_take b_law_take g_law_take
  refine F.ok sc_law_names (fun vs H Q E h => ?_) (fun cdv A outer s H vs Q E hr h => ?_)
  · obtain ⟨d, c, m, rfl, _⟩ := h
    rfl
  · obtain ⟨d, c, m, rfl, D0, hm, q⟩ := h
    refine ⟨_, (pss_cons (ps_set (i := 2) sc_law_names.nd rfl (.inl rfl) (pe_lst (pa_cons pe_str (pa_cons pe_str (pa_cons pe_str (pa_cons pe_str (pa_cons pe_str (pa_cons pe_str (pa_cons pe_str (pa_cons pe_str (pa_cons pe_str (pa_cons pe_str (pa_cons pe_str (pa_cons pe_str (pa_cons pe_str (pa_cons pe_str pa_nil))))))))))))))))
      (pss_cons (ps_set (i := 3) sc_law_names.nd rfl (.inr rfl) (pe_lst pa_nil))
      (pss_cons (ps_for PassesOwn.never rfl (pi_range1 (by rfl) T.m_range (pa_cons (pv 1) pa_nil)) (pg_name (i := 4) sc_law_names.nd rfl (.inl rfl))
        (pss_cons (ps_set (i := 5) sc_law_names.nd rfl (.inr rfl) (pe_call G_law_pick (hr.mono (by decide)) (by rfl) g_law_pick F_law_pick.kp b_law_pick .nil pass0 (pa_cons (pv 0) (pa_cons (pv 2) pa_nil))))
      (C8.pss_cut (ps_if (pt_cmpR op_gt (pe_call G_law_take (hr.mono (by decide)) (by rfl) g_law_take F_law_take.kp b_law_take .nil pass0 (pa_cons (pv 0) (pa_cons pe_int pa_nil))) pe_int (nomark _))
        (pss_one (ps_set (i := 5) sc_law_names.nd rfl (.inr rfl) (pe_join pe_str (pe_lc (own := [("j", 7)]) (g := gName 7) rfl sc_law_names.nd (pi_range1 (by rfl) T.m_range (pa_cons (pe_op op_add pe_int (pe_call G_law_take (hr.mono (by decide)) (by rfl) g_law_take F_law_take.kp b_law_take .nil pass0 (pa_cons (pv 0) (pa_cons pe_int pa_nil)))) pa_nil)) (blkOk_by (own := [("j", 7)]) (N := ["draw", "many", "own", "found", "k", "word", "some", "j", "one"]) (sc := defScope s_law_names) (by decide +kernel)) (fun _ _ _ _ _ => pg_name (i := 7) sc_law_names.nd rfl (Or.inl rfl)) (fun _ _ _ _ _ => pts_nil) (fun _ _ _ _ _ => (pe_call G_law_pick (hr.mono (by decide)) (by rfl) g_law_pick F_law_pick.kp b_law_pick .nil pass0 (pa_cons (pv 0) (pa_cons pe_str pa_nil))))))))
        pss_nil)
      (C8.pss_cut (ps_if (pt_cmpR op_in_seq (pv 5) (pv 3) rfl)
        (pss_cons (ps_setLc (i := 6) (own := [("j", 7)]) (g := gName 7) rfl sc_law_names.nd rfl rfl (sw_true rfl rfl rfl (by decide +kernel)) (pi_range1 (by rfl) T.m_range (pa_cons pe_int pa_nil)) (blkOk_by (own := [("j", 7)]) (N := ["draw", "many", "own", "found", "k", "word", "some", "j", "one"]) (sc := defScope s_law_names) (by decide +kernel)) (fun _ _ _ _ _ => pg_name (i := 7) sc_law_names.nd rfl (Or.inl rfl)) (fun _ _ _ _ _ => pts_nil) (fun _ _ _ _ _ => (pe_op op_add_str (pe_op op_add_str (pe_slice sl_str (pv 5) po_none (po_some pe_int)) (pe_ix ix_str pe_str (pe_op op_fdivN (pv 7) pe_int) (fun _ _ => rfl))) (pe_ix ix_str pe_str (pe_op op_modN (pv 7) pe_int) (fun _ _ => rfl)))))
      (pss_one (ps_set (i := 5) sc_law_names.nd rfl (.inr rfl) (pe_ix ix_list (pe_lc (own := [("one", 8)]) (g := gName 8) rfl sc_law_names.nd (pi_list (pv 6)) (blkOk_by (own := [("one", 8)]) (N := ["draw", "many", "own", "found", "k", "word", "some", "j", "one"]) (sc := defScope s_law_names) (by decide +kernel)) (fun _ _ _ _ _ => pg_name (i := 8) sc_law_names.nd rfl (Or.inl rfl)) (fun _ _ _ _ _ => (pts_one (pt_cmpR (r := rIn K true) op_notIn_seq (pv 8) (pv 3) rfl))) (fun _ _ _ _ _ => (pv 8))) pe_int (fun _ _ => rfl)))))
        pss_nil)
      (pss_one (ps_expr (pe_bm PySem.F.plainAttrs_list PySem.F.slot_list_append PySem.F.type_list_append mt_append (pv 3) (pa_cons (pv 5) pa_nil))))))))
      (pss_one (ps_ret (pv 3)))))), ?_⟩
    refine ⟨Nat.le_of_lt (small1000 (show 14 ≤ 1000 by decide)), fun o no => ?_⟩
    refine ⟨Nat.zero_le _, fun p np => ?_⟩
    have hO : upd H o (.lst (ownZ.map V.str)) o = some (.lst (ownZ.map V.str)) := upd_same
    have nop : o ≠ p := ne_of_none hO np
    have nHp : H p = none := by
      rw [upd_ne nop.symm] at np
      exact np
    have od := D0.nd no
    have oc := D0.nc no
    have pd := D0.nd nHp
    have pc := D0.nc nHp
    refine ⟨_, rfl, m, rfl, by omega, by omega, ?_⟩
    refine for_range (lo := 0) (n := (m : Int).toNat) (fun i σ H' => ∃ (zs : List Str) (y4 y5 y6 y7 y8 : Option V), σ = [some (.ref d), some (.int m), some (.ref o), some (.ref p), y4, y5, y6, y7, y8] ∧ NInv H H' d c o p zs ∧ zs.length = i)
      ⟨[], none, none, none, none, none, rfl, ⟨(D0.new no).new np, (Kp.new no).trans (Kp.new np), by rw [upd_ne nop]; exact hO, upd_same, List.nodup_nil, fun _ h => (nomatch h)⟩, rfl⟩ ?_ ?_
    · rintro i σ H1 hi ⟨zs, y4, y5, y6, y7, y8, rfl, I, hl⟩
      -- word = _law_pick(draw, own)
      refine ⟨_, rfl, _, rfl, d, c, _, fun v => ∃ z ∈ ownZ, v = .str z, rfl, I.dr, .inl ⟨o, _, rfl, SqL.of I.ho, od, oc, (by decide), (by decide), fun v hv => ?_⟩, fun v H2 hv D2 k2 => ?_⟩
      · obtain ⟨z, hz, rfl⟩ := List.mem_map.mp hv
        exact ⟨z, hz, rfl⟩
      obtain ⟨z, hz, rfl⟩ := hv
      have I2 := I.go od oc pd pc D2 k2
      have hz1 := own_name z hz
      -- if _law_take(draw, 3) > 0: word = ''.join(..)
      refine ⟨fun σ H' => ∃ (z : Str) (y4 y6 y7 y8 : Option V), σ = [some (.ref d), some (.int m), some (.ref o), some (.ref p), y4, some (.str z), y6, y7, y8] ∧ NInv H H' d c o p zs ∧ nameB z = true, ?_, ?_⟩
      · refine ⟨_, rfl, d, c, 3, rfl, D2, by decide, by decide, fun v H3 _ _ D3 k3 => ?_⟩
        have I3 := I2.go od oc pd pc D3 k3
        refine ⟨_, _, rfl, rfl, _, rfl, ite2 (fun _ => ?_) (fun _ => ⟨z, _, _, _, _, rfl, I3, hz1⟩)⟩
        refine ⟨⟨_, rfl⟩, _, rfl, d, c, 8, rfl, D3, by decide, by decide, fun n H4 n0 n1 D4 k4 => ?_⟩
        have I4 := I3.go od oc pd pc D4 k4
        refine ⟨_, _, rfl, rfl, _, rfl, by omega, by omega, fun D nD => ?_⟩
        refine lc_range (lo := 0) (n := (1 + n).toNat) (fun i H' => ∃ cs : List Nat, cs.length = i ∧ (∀ c ∈ cs, az c = true) ∧ NInv H H' d c o p zs ∧ D ≠ d ∧ D ≠ c ∧ D ≠ o ∧ D ≠ p ∧ H D = none ∧ H' D = some (.lst ((cs.map sgn).map V.str)))
          ⟨[], rfl, fun _ h => (nomatch h), I4.new nD, D4.nd nD, D4.nc nD, (ne_of_none I4.ho nD).symm, (ne_of_none I4.hp nD).symm, ?_, upd_same⟩ ?_ ?_
        · exact I4.kp.none (D4.nd nD) (D4.nc nD) nD
        · rintro j H5 hj ⟨cs, hc1, hc2, I5, Dd, Dc, Do, Dp, HD, hD⟩
          refine ⟨rfl, ?_⟩
          refine ⟨_, rfl, d, c, _, fun v => ∃ u, az u = true ∧ v = .str (sgn u), rfl, I5.dr, .inr ⟨_, rfl, by decide +kernel, by decide +kernel, fun u hu => ?_⟩, fun v H6 hv D6 k6 => ?_⟩
          · have := decide_eq_true hu
            rw [abc_mem] at this
            exact ⟨u, this, rfl⟩
          · obtain ⟨u, hu, rfl⟩ := hv
            have hD6 := k6 _ _ Dd Dc hD
            have I6 := I5.go od oc pd pc D6 k6
            refine ⟨_, hD6, ?_, cs ++ [u], ?_, ?_, ?_, Dd, Dc, Do, Dp, HD, ?_⟩
            · rw [List.length_map, List.length_map]
              exact small1000 (by omega)
            · rw [List.length_append, hc1]; rfl
            · intro x hx
              rcases List.mem_append.mp hx with h | h
              · exact hc2 x h
              · rw [List.mem_singleton.mp h]; exact hu
            · exact ⟨D6.upd Dd Dc, fun b x h1 h2 h3 => by
                rw [upd_ne (ne_of_none h3 HD)]
                exact I6.kp b x h1 h2 h3, by rw [upd_ne Do.symm]; exact I6.ho, by rw [upd_ne Dp.symm]; exact I6.hp, I6.nd, I6.nm⟩
            · rw [upd_same, List.map_append, List.map_append]
              rfl
        · rintro H5 ⟨cs, hc1, hc2, I5, Dd, Dc, Do, Dp, HD, hD⟩
          refine ⟨_, D, cs.map sgn, rfl, rfl, .inl (SqL.of hD), ?_, ?_⟩
          · rw [sum_sgn, List.length_map, hc1]
            show (1 + n).toNat + (1 + n).toNat * 0 ≤ 16777216
            omega
          · exact ⟨_, _, _, _, _, rfl, I5, join_az rfl hc2 (by omega) (by omega)⟩
      · -- if word in found
        rintro σ' H3 ⟨z, y4, y6, y7, y8, rfl, I3, hz⟩
        refine ⟨fun σ H' => ∃ (z : Str) (y4 y6 y7 y8 : Option V), σ = [some (.ref d), some (.int m), some (.ref o), some (.ref p), y4, some (.str z), y6, y7, y8] ∧ NInv H H' d c o p zs ∧ nameB z = true ∧ z ∉ zs, ?_, ?_⟩
        · refine ⟨_, rfl, _, rfl, p, _, rfl, .inl (SqL.of I3.hp), rfl, flat_strs zs, _, rfl, ?_⟩
          rw [inV_strs]
          refine ite2 (fun hin => ?_) (fun hin => ⟨z, _, _, _, _, rfl, I3, hz, fun h => hin (decide_eq_true h)⟩)
          refine ⟨52, rfl, by decide, by decide, fun D nD => ?_⟩
          have Dd := I3.dr.nd nD
          have Dc := I3.dr.nc nD
          have HD : H D = none := I3.kp.none Dd Dc nD
          refine lc_range (lo := 0) (n := 52) (fun i H' => NInv H H' d c o p zs ∧ D ≠ o ∧ D ≠ p ∧ H' D = some (.lst (((List.range i).map (alt z)).map V.str)))
            ⟨I3.new nD, (ne_of_none I3.ho nD).symm, (ne_of_none I3.hp nD).symm, upd_same⟩ ?_ ?_
          · rintro j H4 hj ⟨I4, Do, Dp, hD⟩
            obtain ⟨z1, z8, _⟩ := name_iff.mp hz
            have z8' : z.length ≤ 8 := z8
            have e13 : (0 + (j : Int)).fdiv 13 = ((j / 13 : Nat) : Int) := by
              rw [Int.fdiv_eq_ediv_of_nonneg _ (by decide)]
              omega
            have em : (0 + (j : Int)).fmod 13 = ((j % 13 : Nat) : Int) := by
              rw [Int.fmod_eq_emod_of_nonneg _ (by decide)]
              omega
            have l6 : (cutS z none (some 6)).length ≤ 8 := by
              have : (cutS z none (some 6)).length = (cutS z none (some 6)).cps.toList.length := rfl
              rw [this, cut6, List.length_take]
              omega
            refine ⟨rfl, ?_⟩
            refine ⟨_, rfl, 6, rfl, z, rfl, Nat.le_of_lt (small1000 (by omega)), ?_⟩
            refine ⟨_, rfl, _, _, rfl, rfl, ⟨by decide, by decide⟩, _, _, _, rfl, rfl, by decide +kernel, at_ofA e13 (qz_at (j / 13) (by omega)), ?_⟩
            refine ⟨_, _, rfl, rfl, Nat.le_of_lt (small1000 (show (cutS z none (some 6)).length + 1 ≤ 1000 by omega)), ?_⟩
            refine ⟨_, rfl, _, _, rfl, rfl, (by show (13 : Int) ≠ 0; decide), _, _, _, rfl, rfl, by decide +kernel, at_ofA em (am_at (j % 13) (Nat.mod_lt _ (by decide))), ?_⟩
            have l7 : (cutS z none (some 6) ++ sgn (qz.getD (j / 13) 0)).length ≤ 9 := by
              rw [len_app]
              show (cutS z none (some 6)).length + 1 ≤ 9
              omega
            refine ⟨_, _, rfl, rfl, Nat.le_of_lt (small1000 (show (cutS z none (some 6) ++ sgn (qz.getD (j / 13) 0)).length + 1 ≤ 1000 by omega)), ?_⟩
            refine ⟨_, hD, ?_, ⟨I4.dr.upd Dd Dc, fun b x h1 h2 h3 => ?_, by rw [upd_ne Do.symm]; exact I4.ho, by rw [upd_ne Dp.symm]; exact I4.hp, I4.nd, I4.nm⟩, Do, Dp, ?_⟩
            · rw [List.length_map, List.length_map, List.length_range]
              exact small1000 (by omega)
            · rw [upd_ne (ne_of_none h3 HD)]
              exact I4.kp b x h1 h2 h3
            · rw [upd_same, List.range_succ, List.map_append, List.map_append]
              rfl
          · rintro H4 ⟨I4, Do, Dp, hD⟩
            refine ⟨_, rfl, D, rfl, ⟨_, SqL.of hD⟩, fun G nG => ?_⟩
            have nDG := ne_of_none hD nG
            refine lc_list (K := K) (a := D) (xs := (alts z).map V.str) (fun i H' => NInv H H' d c o p zs ∧ H' D = some (.lst ((alts z).map V.str)) ∧ H' G = some (.lst ((((alts z).take i).filter fun a => !decide (a ∈ zs)).map V.str)))
              ⟨I4.new nG, by rw [upd_ne nDG]; exact hD, upd_same⟩ (fun _ _ _ h => SqL.of h.2.1) ?_ ?_
            · rintro i x H5 hi ⟨I5, hD5, hG5⟩
              obtain ⟨a, ha, rfl⟩ : ∃ a, (alts z)[i]? = some a ∧ V.str a = x := by
                rw [List.getElem?_map] at hi
                cases e : (alts z)[i]? with
                | none =>
                  rw [e] at hi
                  cases hi
                | some u =>
                  rw [e] at hi
                  exact ⟨u, rfl, Option.some.inj hi⟩
              have et : (alts z).take (i + 1) = (alts z).take i ++ [a] := by
                rw [List.take_add_one, ha]
                rfl
              have Gd := I4.dr.nd nG
              have Gc := I4.dr.nc nG
              have HG : H G = none := I4.kp.none Gd Gc nG
              refine ⟨rfl, ?_⟩
              refine ⟨_, rfl, _, rfl, p, _, rfl, .inl (SqL.of I5.hp), rfl, flat_strs zs, _, rfl, ?_⟩
              rw [inV_strs, et, List.filter_append]
              refine ite2 (fun hn => ?_) (fun hn => ?_)
              · refine ⟨_, rfl, _, hG5, ?_, ⟨I5.dr.upd Gd Gc, fun b x h1 h2 h3 => ?_, by rw [upd_ne (ne_of_none I4.ho nG)]; exact I5.ho, by rw [upd_ne (ne_of_none I4.hp nG)]; exact I5.hp, I5.nd, I5.nm⟩, ?_, ?_⟩
                · rw [List.length_map]
                  refine small1000 (Nat.le_trans (List.length_filter_le _ _) ?_)
                  rw [List.length_take]
                  unfold alts
                  rw [List.length_map, List.length_range]
                  omega
                · rw [upd_ne (ne_of_none h3 HG)]
                  exact I5.kp b x h1 h2 h3
                · rw [upd_ne nDG]
                  exact hD5
                · have ef : [a].filter (fun a => !decide (a ∈ zs)) = [a] := by
                    rw [List.filter_cons, if_pos (show (!decide (a ∈ zs)) = true from hn)]
                    rfl
                  rw [upd_same, ef, List.map_append]
                  rfl
              · have ef : [a].filter (fun a => !decide (a ∈ zs)) = [] := by
                  rw [List.filter_cons, if_neg (show ¬ (!decide (a ∈ zs)) = true from hn)]
                  rfl
                rw [ef, List.append_nil]
                exact ⟨I5, hD5, hG5⟩
            · rintro H5 ⟨I5, hD5, hG5⟩
              rw [List.length_map, List.take_length] at hG5
              obtain ⟨y, r, e1, e2, j, hj, e3⟩ := alt_new z zs (by omega)
              rw [e1] at hG5
              refine ⟨G, _, 0, .str y, rfl, rfl, SqL.of hG5, atI_nat (j := 0) rfl, ?_⟩
              exact ⟨y, _, _, _, _, rfl, I5, by rw [e3]; exact alt_name hz hj, e2⟩
        · -- found.append(word)
          rintro σ' H4 ⟨z, y4, y6, y7, y8, rfl, I4, hz, hn⟩
          refine ⟨_, rfl, .inl ⟨rfl, _, SqL.of I4.hp⟩, _, rfl, p, _, _, rfl, rfl, I4.hp, ?_, ?_⟩
          · rw [List.length_map]
            exact small1000 (by omega)
          · refine ⟨zs ++ [z], _, _, _, _, _, rfl, ⟨I4.dr.upd pd pc, fun b x h1 h2 h3 => ?_, ?_, ?_, ?_, ?_⟩, ?_⟩
            · rw [upd_ne (ne_of_none h3 nHp)]
              exact I4.kp b x h1 h2 h3
            · rw [upd_ne nop]
              exact I4.ho
            · rw [upd_same, List.map_append]
              rfl
            · refine List.nodup_append.mpr ⟨I4.nd, by simp, fun a ha b hb e => ?_⟩
              rw [List.mem_singleton.mp hb] at e
              exact hn (e ▸ ha)
            · intro x hx
              rcases List.mem_append.mp hx with h | h
              · exact I4.nm x h
              · rw [List.mem_singleton.mp h]; exact hz
            · rw [List.length_append, hl]; rfl
    · rintro σ H1 ⟨zs, y4, y5, y6, y7, y8, rfl, I, hl⟩
      exact ⟨_, rfl, q p zs H1 I.dr I.kp nHp pd pc I.hp (by omega) I.nd I.nm⟩
end
end K08
namespace K08
open PySem PySem.Spec PyProof.Rows L2
abbrev s_law_thing : Stmt := topS 7
theorem sc_law_thing : FnScope ["draw", "way", "word", "at", "k"] ["draw"] (defScope s_law_thing) := ⟨rfl, rfl, rfl, by decide +kernel, rfl, by decide +kernel, by decide +kernel⟩
theorem KindV.mono {K : PySem.W.Frag} {H H' : Hp} {x : V} (h : KindV K H x) (k : ∀ a o, x = .ref a → H a = some o → H' a = some o) : KindV K H' x := by
  rcases h with h | ⟨nm, h⟩
  · exact .inl h
  · exact .inr ⟨nm, h.mono k⟩
theorem low_az {cs : List Nat} (h : ∀ c ∈ cs, az c = true) : cs.all (fun c => decide (c < 128)) = true :=
  List.all_eq_true.mpr fun c hc => decide_eq_true (az_lt (h c hc))
theorem kind_str {K : PySem.W.Frag} {H : Hp} {z : Str} {cs : List Nat} (e : z.cps.toList = cs) (h1 : cs.length ≤ 1000) (h : cs.all (fun c => decide (c < 128)) = true) : KindV K H (.str z) :=
  .inl ⟨z, rfl, by rw [show z.length = z.cps.toList.length from rfl, e]; exact h1, by rw [e]; exact h⟩
theorem kind_name {K : PySem.W.Frag} {H : Hp} {z : Str} (h : nameB z = true) : KindV K H (.str z) := by
  obtain ⟨_, h8, h3⟩ := name_iff.mp h
  exact kind_str rfl (by omega) (low_az h3)
theorem cut_lo (z : Str) (j : Nat) (h : j ≤ z.length) : (cutS z none (some (j : Int))).cps.toList = z.cps.toList.take j := by
  unfold cutS
  have hl : z.length = z.cps.toList.length := rfl
  rw [show HT.sIx z.length z.length (some (j : Int)) = min j z.length from HT.sIx_nat z.length _ j, HT.sIx_none, Nat.min_eq_left h]
  show ((z.cps.toList.drop 0).take (j - 0)) = z.cps.toList.take j
  rw [List.drop_zero, Nat.sub_zero]
theorem cut_hi (z : Str) (j : Nat) (h : j ≤ z.length) : (cutS z (some (j : Int)) none).cps.toList = z.cps.toList.drop j := by
  unfold cutS
  have hl : z.length = z.cps.toList.length := rfl
  rw [show HT.sIx z.length 0 (some (j : Int)) = min j z.length from HT.sIx_nat z.length _ j, HT.sIx_none, Nat.min_eq_left h]
  show ((z.cps.toList.drop j).take (z.length - j)) = z.cps.toList.drop j
  rw [hl, ← List.length_drop, List.take_length]
/-- the list of other things -/
def menu (a1 a2 a3 a4 a5 : Addr) : List V := [.int 0, .int 7, .bl true, .bl false, .non, .ref a1, .ref a2, .ref a3, .ref a4, .ref a5, .str ""]
theorem menu_ok {K : PySem.W.Frag} {H : Hp} {d c a1 a2 a3 a4 a5 : Addr} {z : Str} {kv : List (Key × V)} (e1 : H a1 = some (.lst [.str z])) (e2 : H a2 = some (.tup [.str z])) (e3 : H a3 = some (.dK kv)) (e4 : H a4 = some (.lst [])) (e5 : H a5 = some (.tup []))
    (ne : ∀ a, a = a1 ∨ a = a2 ∨ a = a3 ∨ a = a4 ∨ a = a5 → a ≠ d ∧ a ≠ c) : ∀ v ∈ menu a1 a2 a3 a4 a5, ∀ H', Kp d c H H' → KindV K H' v := by
  have up : ∀ {a : Addr} {o : HO} {H' : Hp}, (a = a1 ∨ a = a2 ∨ a = a3 ∨ a = a4 ∨ a = a5) → H a = some o → Kp d c H H' → H' a = some o := fun h e k => k _ _ (ne _ h).1 (ne _ h).2 e
  unfold menu
  refine List.forall_mem_cons.mpr ⟨fun H' k => .inr ⟨_, .int _⟩, ?_⟩
  refine List.forall_mem_cons.mpr ⟨fun H' k => .inr ⟨_, .int _⟩, ?_⟩
  refine List.forall_mem_cons.mpr ⟨fun H' k => .inr ⟨_, .bl _⟩, ?_⟩
  refine List.forall_mem_cons.mpr ⟨fun H' k => .inr ⟨_, .bl _⟩, ?_⟩
  refine List.forall_mem_cons.mpr ⟨fun H' k => .inr ⟨_, .non⟩, ?_⟩
  refine List.forall_mem_cons.mpr ⟨fun H' k => .inr ⟨_, .lst (up (.inl rfl) e1 k)⟩, ?_⟩
  refine List.forall_mem_cons.mpr ⟨fun H' k => .inr ⟨_, .tup (up (.inr (.inl rfl)) e2 k)⟩, ?_⟩
  refine List.forall_mem_cons.mpr ⟨fun H' k => .inr ⟨_, .dK (up (.inr (.inr (.inl rfl))) e3 k)⟩, ?_⟩
  refine List.forall_mem_cons.mpr ⟨fun H' k => .inr ⟨_, .lst (up (.inr (.inr (.inr (.inl rfl)))) e4 k)⟩, ?_⟩
  refine List.forall_mem_cons.mpr ⟨fun H' k => .inr ⟨_, .tup (up (.inr (.inr (.inr (.inr rfl)))) e5 k)⟩, ?_⟩
  exact List.forall_mem_cons.mpr ⟨fun H' k => kind_str (cs := []) rfl (by decide) rfl, fun _ h => (nomatch h)⟩
theorem odd_low : ∀ u ∈ (Str.ofString "ABZ019_ -,.<?'\n").cps.toList, u < 128 := by decide +kernel
def spThing (K : PySem.W.Frag) : Sp := fun vs H Q _ => ∃ (d c : Addr), vs = [.ref d] ∧ DrC H d c ∧ ∀ x H', DrC H' d c → Kp d c H H' → KindV K H' x → Q x H'
section
variable {P : Program} {w : World} {K : PySem.W.Frag} {mg : Str → Option Value} {base : Heap}
theorem ok_thing {f f_law_take f_law_pick f_law_names : Addr} {fd fd_take fd_pick fd_names : FuncData} (F : Fun K "_law_thing" "_law_thing" s_law_thing f fd) (T : TM mg)
    (F_law_take : Fun K "_law_take" "_law_take" s_law_take f_law_take fd_take) (b_law_take : Binds K fd_take ["draw", "size"] []) (g_law_take : mg "_law_take" = some (.ref f_law_take))
    (F_law_pick : Fun K "_law_pick" "_law_pick" s_law_pick f_law_pick fd_pick) (b_law_pick : Binds K fd_pick ["draw", "some"] []) (g_law_pick : mg "_law_pick" = some (.ref f_law_pick))
    (F_law_names : Fun K "_law_names" "_law_names" s_law_names f_law_names fd_names) (b_law_names : Binds K fd_names ["draw", "many"] []) (g_law_names : mg "_law_names" = some (.ref f_law_names)) : FnOk P w K mg base CX0 4 f fd ["draw"] (spThing K) := by
  have G_law_take : FnOk P w K mg base CX0 1 f_law_take fd_take ["draw", "size"] spTake := ok_take F_law_take T
  have G_law_pick : FnOk P w K mg base CX0 2 f_law_pick fd_pick ["draw", "some"] (spPick K) := ok_pick F_law_pick T F_law_take b_law_take g_law_take
  have G_law_names : FnOk P w K mg base CX0 3 f_law_names fd_names ["draw", "many"] spNames := ok_names F_law_names T F_law_take b_law_take g_law_take F_law_pick b_law_pick g_law_pick
  refine F.ok sc_law_thing (fun vs H Q E h => ?_) (fun cdv A outer s H vs Q E hr h => ?_)
  · obtain ⟨d, c, rfl, _⟩ := h
    rfl
  · obtain ⟨d, c, rfl, D0, q⟩ := h
    refine ⟨_, (pss_cons (ps_par (i := 1) (j := 2) (by rfl) sc_law_thing.nd rfl rfl (by decide) rfl rfl (pa_cons (pe_call G_law_take (hr.mono (by decide)) (by rfl) g_law_take F_law_take.kp b_law_take .nil pass0 (pa_cons (pv 0) (pa_cons pe_int pa_nil))) (pa_cons (pe_ix ix_list (pe_call G_law_names (hr.mono (by decide)) (by rfl) g_law_names F_law_names.kp b_law_names .nil pass0 (pa_cons (pv 0) (pa_cons pe_int pa_nil))) pe_int (fun _ _ => rfl)) pa_nil)) (by rfl))
      (pss_cons (ps_if (pt_cmpR op_eq (pv 1) pe_int (nomark _))
        (pss_one (ps_ret (pe_join pe_str (pe_lc (own := [("k", 4)]) (g := gName 4) rfl sc_law_thing.nd (pi_range1 (by rfl) T.m_range (pa_cons (pe_call G_law_take (hr.mono (by decide)) (by rfl) g_law_take F_law_take.kp b_law_take .nil pass0 (pa_cons (pv 0) (pa_cons pe_int pa_nil))) pa_nil)) (blkOk_by (own := [("k", 4)]) (N := ["draw", "way", "word", "at", "k"]) (sc := defScope s_law_thing) (by decide +kernel)) (fun _ _ _ _ _ => pg_name (i := 4) sc_law_thing.nd rfl (Or.inl rfl)) (fun _ _ _ _ _ => pts_nil) (fun _ _ _ _ _ => (pe_call G_law_pick (hr.mono (by decide)) (by rfl) g_law_pick F_law_pick.kp b_law_pick .nil pass0 (pa_cons (pv 0) (pa_cons pe_str pa_nil))))))))
        pss_nil)
      (pss_cons (ps_if (pt_cmpR op_eq (pv 1) pe_int (nomark _))
        (pss_cons (ps_set (i := 3) sc_law_thing.nd rfl (.inl rfl) (pe_call G_law_take (hr.mono (by decide)) (by rfl) g_law_take F_law_take.kp b_law_take .nil pass0 (pa_cons (pv 0) (pa_cons (pe_op op_add (pe_callB call_len_str (by rfl) T.m_len (by decide +kernel) (pa_cons (pv 2) pa_nil)) pe_int) pa_nil))))
      (pss_one (ps_ret (pe_op op_add_str (pe_op op_add_str (pe_slice sl_str (pv 2) po_none (po_some (pv 3))) (pe_call G_law_pick (hr.mono (by decide)) (by rfl) g_law_pick F_law_pick.kp b_law_pick .nil pass0 (pa_cons (pv 0) (pa_cons pe_str pa_nil)))) (pe_slice sl_str (pv 2) (po_some (pv 3)) po_none)))))
        pss_nil)
      (pss_cons (ps_if (pt_cmpR op_eq (pv 1) pe_int (nomark _))
        (pss_one (ps_ret (pe_call G_law_pick (hr.mono (by decide)) (by rfl) g_law_pick F_law_pick.kp b_law_pick .nil pass0 (pa_cons (pv 0) (pa_cons (pe_lst (pa_cons pe_int (pa_cons pe_int (pa_cons pe_bl (pa_cons pe_bl (pa_cons pe_non (pa_cons (pe_lst (pa_cons (pv 2) pa_nil)) (pa_cons (pe_tup (pa_cons (pv 2) pa_nil)) (pa_cons (pe_disp (pps_cons (pv 2) pe_int pps_nil) (by rfl) (by rfl) (fun z => by cases z) (by decide)) (pa_cons (pe_lst pa_nil) (pa_cons (pe_tup pa_nil) (pa_cons pe_str pa_nil)))))))))))) pa_nil)))))
        pss_nil)
      (pss_one (ps_ret (pv 2))))))), ?_⟩
    refine ⟨_, rfl, d, c, 6, rfl, D0, by decide, by decide, fun way H1 _ _ D1 k1 => ?_⟩
    refine ⟨_, rfl, d, c, 1, rfl, D1, by decide, fun p zs H2 D2 k2 np pd pc hp hl _ hnm => ?_⟩
    obtain ⟨z, rfl⟩ : ∃ z, zs = [z] := by
      cases zs with
      | nil => cases hl
      | cons z r =>
        cases r with
        | nil => exact ⟨z, rfl⟩
        | cons y r => cases hl
    have hz := hnm z List.mem_cons_self
    obtain ⟨z1, z8, z3⟩ := name_iff.mp hz
    have zl : z.length ≤ 8 := z8
    have k02 := k1.trans k2
    refine ⟨p, _, 0, .str z, rfl, rfl, SqL.of hp, atI_nat (j := 0) rfl, _, _, rfl, ?_⟩
    -- way == 1
    refine ⟨_, rfl, rfl, _, rfl, ite2 (fun _ => ?_) (fun _ => ?_)⟩
    · refine ⟨⟨_, rfl⟩, _, rfl, d, c, 11, rfl, D2, by decide, by decide, fun n H3 n0 n1 D3 k3 => ?_⟩
      refine ⟨n, rfl, by omega, by omega, fun D nD => ?_⟩
      have Dd := D3.nd nD
      have Dc := D3.nc nD
      have HD : H D = none := (k02.trans k3).none Dd Dc nD
      refine lc_range (lo := 0) (n := n.toNat) (fun i H' => ∃ cs : List Nat, cs.length = i ∧ (∀ c ∈ cs, az c = true) ∧ DrC H' d c ∧ Kp d c H H' ∧ H' D = some (.lst ((cs.map sgn).map V.str)))
        ⟨[], rfl, fun _ h => (nomatch h), D3.new nD, (k02.trans k3).trans (Kp.new nD), upd_same⟩ ?_ ?_
      · rintro j H5 hj ⟨cs, hc1, hc2, D5, k5, hD⟩
        refine ⟨rfl, ?_⟩
        refine ⟨_, rfl, d, c, _, fun v => ∃ u, az u = true ∧ v = .str (sgn u), rfl, D5, .inr ⟨_, rfl, by decide +kernel, by decide +kernel, fun u hu => ?_⟩, fun v H6 hv D6 k6 => ?_⟩
        · have := decide_eq_true hu
          rw [abc_mem] at this
          exact ⟨u, this, rfl⟩
        · obtain ⟨u, hu, rfl⟩ := hv
          have hD6 := k6 _ _ Dd Dc hD
          refine ⟨_, hD6, ?_, cs ++ [u], ?_, ?_, D6.upd Dd Dc, fun b x h1 h2 h3 => ?_, ?_⟩
          · rw [List.length_map, List.length_map]
            exact small1000 (by omega)
          · rw [List.length_append, hc1]; rfl
          · intro x hx
            rcases List.mem_append.mp hx with h | h
            · exact hc2 x h
            · rw [List.mem_singleton.mp h]; exact hu
          · rw [upd_ne (ne_of_none h3 HD)]
            exact (k5.trans k6) b x h1 h2 h3
          · rw [upd_same, List.map_append, List.map_append]
            rfl
      · rintro H5 ⟨cs, hc1, hc2, D5, k5, hD⟩
        refine ⟨_, D, cs.map sgn, rfl, rfl, .inl (SqL.of hD), ?_, q _ _ D5 k5 (kind_str (join_sgn _ rfl cs) (by omega) (low_az hc2))⟩
        rw [sum_sgn, List.length_map, hc1]
        show n.toNat + n.toNat * 0 ≤ 16777216
        omega
    refine ⟨_, rfl, rfl, _, rfl, ite2 (fun _ => ?_) (fun _ => ?_)⟩
    · have zs' : z.length ≤ sizeLine := Nat.le_of_lt (small1000 (by omega))
      refine ⟨_, rfl, _, rfl, z, rfl, zs', _, _, rfl, rfl, d, c, _, rfl, D2, by omega, by omega, fun at_ H3 a0 a1 D3 k3 => ?_⟩
      obtain ⟨j, rfl⟩ : ∃ j : Nat, at_ = (j : Int) := ⟨at_.toNat, by omega⟩
      have hj : j ≤ z.length := by omega
      refine ⟨_, rfl, _, rfl, _, rfl, z, rfl, zs', ?_⟩
      refine ⟨_, rfl, d, c, _, fun v => ∃ u, u < 128 ∧ v = .str (sgn u), rfl, D3, .inr ⟨_, rfl, by decide +kernel, by decide +kernel, fun u hu => ⟨u, odd_low u hu, rfl⟩⟩, fun v H4 hv D4 k4 => ?_⟩
      obtain ⟨u, hu, rfl⟩ := hv
      have l1 : (cutS z none (some (j : Int))).length ≤ 8 := by
        rw [show (cutS z none (some (j : Int))).length = (cutS z none (some (j : Int))).cps.toList.length from rfl, cut_lo z j hj, List.length_take]
        omega
      have l2 : (cutS z (some (j : Int)) none).length ≤ 8 := by
        rw [show (cutS z (some (j : Int)) none).length = (cutS z (some (j : Int)) none).cps.toList.length from rfl, cut_hi z j hj, List.length_drop]
        omega
      have l3 : (cutS z none (some (j : Int)) ++ sgn u).length ≤ 9 := by
        rw [len_app]
        show (cutS z none (some (j : Int))).length + 1 ≤ 9
        omega
      refine ⟨_, _, rfl, rfl, Nat.le_of_lt (small1000 (show (cutS z none (some (j : Int))).length + 1 ≤ 1000 by omega)), ?_⟩
      refine ⟨_, rfl, _, rfl, _, rfl, z, rfl, zs', ?_⟩
      refine ⟨_, _, rfl, rfl, Nat.le_of_lt (small1000 (show (cutS z none (some (j : Int)) ++ sgn u).length + (cutS z (some (j : Int)) none).length ≤ 1000 by omega)), ?_⟩
      refine q _ _ D4 (k02.trans (k3.trans k4)) (kind_str (cs := z.cps.toList.take j ++ [u] ++ z.cps.toList.drop j) ?_ ?_ ?_)
      · rw [PySem.Str.cps_append, PySem.Str.cps_append, Array.toList_append, Array.toList_append, cut_lo z j hj, cut_hi z j hj]
        rfl
      · rw [List.length_append, List.length_append, List.length_take, List.length_drop]
        show min j z.cps.toList.length + 1 + (z.cps.toList.length - j) ≤ 1000
        omega
      · refine List.all_eq_true.mpr fun x hx => ?_
        rcases List.mem_append.mp hx with h | h
        · rcases List.mem_append.mp h with h | h
          · exact decide_eq_true (az_lt (z3 x (List.mem_of_mem_take h)))
          · rw [List.mem_singleton.mp h]; exact decide_eq_true hu
        · exact decide_eq_true (az_lt (z3 x (List.mem_of_mem_drop h)))
    refine ⟨_, rfl, rfl, _, rfl, ite2 (fun _ => ?_) (fun _ => ?_)⟩
    · refine ⟨_, rfl, _, rfl, Nat.le_of_lt (small1000 (show 1 ≤ 1000 by decide)), fun a1 n1 => ?_⟩
      refine ⟨_, rfl, Nat.le_of_lt (small1000 (show 1 ≤ 1000 by decide)), fun a2 n2 => ?_⟩
      refine fun a3 n3 => ⟨_, rfl, upd_same, [(.inr z, .int 1)], rfl, (show 1 ≤ 15 by decide), ?_⟩
      rw [upd_upd]
      refine ⟨Nat.zero_le _, fun a4 n4 => ?_⟩
      refine ⟨Nat.zero_le _, fun a5 n5 => ?_⟩
      refine ⟨Nat.le_of_lt (small1000 (show 11 ≤ 1000 by decide)), fun a6 n6 => ?_⟩
      have D3 := ((((D2.new (o := .lst [.str z]) n1).new (o := .tup [.str z]) n2).new (o := .dK (mergeK [] [(.inr z, .int 1)])) n3).new (o := .lst []) n4).new (o := .tup []) n5
      have s2 := new_same (o := .tup [.str z]) n2
      have s3 := new_same (o := .dK (mergeK [] [(.inr z, .int 1)])) n3
      have s4 := new_same (o := .lst []) n4
      have s5 := new_same (o := .tup []) n5
      have s6 := new_same (o := .lst (menu a1 a2 a3 a4 a5)) n6
      have S6 := s6
      have e1 := s6 _ _ (s5 _ _ (s4 _ _ (s3 _ _ (s2 _ _ (upd_same (H := H2) (a := a1) (o := .lst [.str z]))))))
      have e2 := s6 _ _ (s5 _ _ (s4 _ _ (s3 _ _ (upd_same (o := .tup [.str z])))))
      have e3 := s6 _ _ (s5 _ _ (s4 _ _ (upd_same (a := a3) (o := .dK (mergeK [] [(.inr z, .int 1)])))))
      have e4 := s6 _ _ (s5 _ _ (upd_same (a := a4) (o := .lst [])))
      have e5 := s6 _ _ (upd_same (a := a5) (o := .tup []))
      have kf := (((((Kp.new (d := d) (c := c) (o := .lst [.str z]) n1).trans (Kp.of_same s2)).trans (Kp.of_same s3)).trans (Kp.of_same s4)).trans (Kp.of_same s5)).trans (Kp.of_same s6)
      have Df := D3.new (o := .lst (menu a1 a2 a3 a4 a5)) n6
      have hm := menu_ok (K := K) e1 e2 e3 e4 e5 (fun a h => ?_) (d := d) (c := c)
      refine ⟨d, c, .ref a6, fun v => ∀ H', Kp d c _ H' → KindV K H' v, rfl, Df, .inl ⟨a6, menu a1 a2 a3 a4 a5, rfl, SqL.of upd_same, D3.nd n6, D3.nc n6, by show 0 < 11; decide, by show 11 ≤ 1000; decide, hm⟩, fun v H' hv D' k' => q _ _ D' ((k02.trans kf).trans k') (hv H' k')⟩
      have Da := D2.new (o := .lst [.str z]) n1
      have Db := Da.new (o := .tup [.str z]) n2
      have Dc' := Db.new (o := .dK (mergeK [] [(.inr z, .int 1)])) n3
      have Dd' := Dc'.new (o := .lst []) n4
      rcases h with rfl | rfl | rfl | rfl | rfl
      · exact ⟨D2.nd n1, D2.nc n1⟩
      · exact ⟨Da.nd n2, Da.nc n2⟩
      · exact ⟨Db.nd n3, Db.nc n3⟩
      · exact ⟨Dc'.nd n4, Dc'.nc n4⟩
      · exact ⟨Dd'.nd n5, Dd'.nc n5⟩
    · exact ⟨_, rfl, q _ _ D2 k02 (kind_name hz)⟩
end
end K08
namespace K08
open PySem PySem.Spec PyProof.Rows L2
abbrev s_law : Stmt := topS 9
theorem sc_law : FnScope ["script", "draw", "turn", "some", "found"] ["script"] (defScope s_law) := ⟨rfl, rfl, rfl, by decide +kernel, rfl, by decide +kernel, by decide +kernel⟩
section
variable {X : Cx} {CX : CXT} {k : Nat} {f : Addr} {fd : FuncData} {ps ks : List Str} {sp : Sp} {E : XK} {x : Str} {p pos : Pos} {kws : List Keyword} {tk : TA} {g : List Value → List Value → List Value} {gV : List V → List V → List V}
/-- f(k = v, ..), a def of one's own, by names alone -/
theorem pe_byname (F : FnOk X.prog X.w X.K X.mg X.base CX k f fd ps sp) (hr : Room k X.A) (hg : Gl X x) (hm : X.mg x = some (.ref f)) (hk : PySem.W.keepIn X.K (.ref f) = true) (hb : KBinds X.K fd ps ks g gV) (hx : Passes CX X E) (hkw : PK X kws tk)
    (hall : (backToKw pos (keywordEach kws X.env)).all (·.1.isSome) = true := by rfl)
    (hks : (backToKw pos (keywordEach kws X.env)).filterMap (·.1) = ks := by rfl)
    (hdb : (x == ("__debug__" : Str)) = false := by decide)
    (hpl : ((backTo pos (starEach [] X.env)).any (·.1) || (backToKw pos (keywordEach kws X.env)).any (·.1.isNone)) = false := by rfl) :
    PE X (.Call (.Name x p) [] kws pos) (fun σ H Q => tk σ H fun zs H1 => sp (gV [] zs) H1 Q E) := by
  constructor
  intro pins s σ H Q I h
  apply wpAny_Call_Name_kw
  refine ld_glob I hg hm ?_ hdb
  refine PySem.W.callWith_KW0 (h₀ := X.base) I.ok.mod.kin hk hall ?_ hpl
  refine thn (hkw.run pos pins s σ H _ I h) ?_
  rintro ws s2 ⟨zs, H2, I2, rz, q2⟩
  refine ⟨I2.kIn, ?_⟩
  rw [hks]
  exact run_fnk F hr hb hx I2 .nil rz q2
end
theorem kb_one {K : PySem.W.Frag} {fd : FuncData} {x qual y : Str} {st : Stmt} {f : Addr} (F : Fun K x qual st f fd)
    (h : ∀ (kV doc pm : Value) (an : Option Addr) (cdv ct v : Value), bindArgs (PySem.W.fnOf x qual (defArgs st) (defBody st) (defScope st) .none kV doc pm an cdv ct) ⟨[v], []⟩ = pure [(y, v)] ∧
      bindArgs (PySem.W.fnOf x qual (defArgs st) (defBody st) (defScope st) .none kV doc pm an cdv ct) ⟨[], [(y, v)]⟩ = pure [(y, v)]) : KBinds K fd [y] [y] (fun us ws => us ++ ws) (fun vs zs => vs ++ zs) := by
  obtain ⟨oc, od, kV, doc, pm, an, cdv, ct, osl, rfl, lk, hcd⟩ := F.ex
  refine ⟨fun s us ws _ hl => ?_, fun r z => r.append z⟩
  match us, ws, hl with
  | [], [v], _ => exact .of_eq (h kV doc pm an cdv ct v).2
  | [v], [], _ => exact .of_eq (h kV doc pm an cdv ct v).1
theorem DrC.same {H H' : Hp} {d c : Addr} (x : DrC H d c) (s : Same H H') : DrC H' d c := by
  obtain ⟨n, a, b, ns, hd, hc, r⟩ := x
  exact ⟨n, a, b, ns, s _ _ hd, s _ _ hc, r⟩
def spLaw (K : PySem.W.Frag) : Sp := fun vs H Q _ => ∃ (a : Addr) (ns : List Int), vs = [.ref a] ∧ SqL K H a (ns.map V.int) ∧ ns.length ≤ 63 ∧ ∀ H', Q (.bl true) H'
structure Ad where
  is_name : Addr
  law_begin : Addr
  law_take : Addr
  law_pick : Addr
  law_names : Addr
  law_thing : Addr
  law_due : Addr
structure TF (K : PySem.W.Frag) (mg : Str → Option Value) (a : Ad) : Prop where
  g_is_name : mg "is_name" = some (.ref a.is_name)
  g_law_begin : mg "_law_begin" = some (.ref a.law_begin)
  g_law_take : mg "_law_take" = some (.ref a.law_take)
  g_law_pick : mg "_law_pick" = some (.ref a.law_pick)
  g_law_names : mg "_law_names" = some (.ref a.law_names)
  g_law_thing : mg "_law_thing" = some (.ref a.law_thing)
  g_law_due : mg "_law_due" = some (.ref a.law_due)
section
variable {P : Program} {w : World} {K : PySem.W.Frag} {mg : Str → Option Value} {base : Heap}
theorem ok_law {f : Addr} {a : Ad} {fd fd_is_name fd_begin fd_take fd_pick fd_names fd_thing fd_due : FuncData} (F : Fun K "law" "law" s_law f fd) (T : TM mg) (A : TF K mg a)
    (F_is_name : Fun K "is_name" "is_name" s_is_name a.is_name fd_is_name) (b_is_name : Binds K fd_is_name ["thing"] []) (kb_is_name : KBinds K fd_is_name ["thing"] ["thing"] (fun us ws => us ++ ws) (fun vs zs => vs ++ zs))
    (F_law_begin : Fun K "_law_begin" "_law_begin" s_law_begin a.law_begin fd_begin) (b_law_begin : Binds K fd_begin ["script"] [])
    (F_law_take : Fun K "_law_take" "_law_take" s_law_take a.law_take fd_take) (b_law_take : Binds K fd_take ["draw", "size"] [])
    (F_law_pick : Fun K "_law_pick" "_law_pick" s_law_pick a.law_pick fd_pick) (b_law_pick : Binds K fd_pick ["draw", "some"] [])
    (F_law_names : Fun K "_law_names" "_law_names" s_law_names a.law_names fd_names) (b_law_names : Binds K fd_names ["draw", "many"] [])
    (F_law_thing : Fun K "_law_thing" "_law_thing" s_law_thing a.law_thing fd_thing) (b_law_thing : Binds K fd_thing ["draw"] [])
    (F_law_due : Fun K "_law_due" "_law_due" s_law_due a.law_due fd_due) (b_law_due : Binds K fd_due ["some"] []) : FnOk P w K mg base CX0 5 f fd ["script"] (spLaw K) := by
  have G_is_name : FnOk P w K mg base CX0 1 a.is_name fd_is_name ["thing"] (spIsName K) := ok_is_name F_is_name T
  have G_law_begin : FnOk P w K mg base CX0 1 a.law_begin fd_begin ["script"] (spBegin K) := ok_begin F_law_begin T
  have G_law_due : FnOk P w K mg base CX0 1 a.law_due fd_due ["some"] (spDue K) := ok_due F_law_due T
  have G_law_thing : FnOk P w K mg base CX0 4 a.law_thing fd_thing ["draw"] (spThing K) := ok_thing F_law_thing T F_law_take b_law_take A.g_law_take F_law_pick b_law_pick A.g_law_pick F_law_names b_law_names A.g_law_names
  refine F.ok sc_law (fun vs H Q E h => ?_) (fun cdv Ar outer s H vs Q E hr h => ?_)
  · obtain ⟨a, ns, rfl, _⟩ := h
    rfl
  · obtain ⟨sc, ns, rfl, hS, l63, q⟩ := h
    refine ⟨_, (pss_cons (ps_set (i := 1) sc_law.nd rfl (.inl rfl) (pe_call G_law_begin (hr.mono (by decide)) (by rfl) A.g_law_begin F_law_begin.kp b_law_begin .nil pass0 (pa_cons (pv 0) pa_nil)))
      (pss_cons (ps_for PassesOwn.never rfl (pi_range1 (by rfl) T.m_range (pa_cons pe_int pa_nil)) (pg_name (i := 2) sc_law.nd rfl (.inl rfl))
        (pss_cons (ps_set (i := 3) sc_law.nd rfl (.inl rfl) (pe_call G_law_thing (hr.mono (by decide)) (by rfl) A.g_law_thing F_law_thing.kp b_law_thing .nil pass0 (pa_cons (pv 1) pa_nil)))
      (pss_one (ps_for PassesOwn.never rfl (pi_list (pe_lst (pa_cons (pe_call G_is_name (hr.mono (by decide)) (by rfl) A.g_is_name F_is_name.kp b_is_name .nil pass0 (pa_cons (pv 3) pa_nil)) (pa_cons (pe_byname G_is_name (hr.mono (by decide)) (by rfl) A.g_is_name F_is_name.kp kb_is_name pass0 (pk_cons (pv 3) pk_nil)) pa_nil)))) (pg_name (i := 4) sc_law.nd rfl (.inl rfl))
        (pss_one (ps_if (PW.pt (pw_or (pt_not (pt_val (pe_callB call_isi (by rfl) T.m_isinstance (by decide +kernel) (pa_cons (pv 4) (pa_cons (pe_bltn (v := .ty "bool") (by rfl) T.m_bool (by decide +kernel) rfl) pa_nil))))) (pw_or1 (pt_cmpR op_ne (pv 4) (pe_call G_law_due (hr.mono (by decide)) (by rfl) A.g_law_due F_law_due.kp b_law_due .nil pass0 (pa_cons (pv 3) pa_nil)) (nomark _)))))
        (pss_one (ps_ret pe_bl))
        pss_nil))))))
      (pss_one (ps_ret pe_bl)))), ?_⟩
    refine ⟨_, rfl, sc, ns, rfl, hS, l63, fun d c H1 D1 _ => ?_⟩
    refine ⟨12, rfl, by decide, by decide, ?_⟩
    refine for_range (lo := 0) (n := 12) (fun i σ H' => ∃ y2 y3 y4, σ = [some (.ref sc), some (.ref d), y2, y3, y4] ∧ DrC H' d c) ⟨none, none, none, rfl, D1⟩ ?_ ?_
    · rintro i σ H2 hi ⟨y2, y3, y4, rfl, D2⟩
      refine ⟨_, rfl, d, c, rfl, D2, fun x H3 D3 _ kx => ?_⟩
      refine ⟨_, rfl, x, rfl, kx, _, rfl, x, rfl, kx, Nat.le_of_lt (small1000 (show 2 ≤ 1000 by decide)), fun p np => ?_⟩
      refine ⟨p, rfl, ⟨_, SqL.of upd_same⟩, ?_⟩
      refine for_list (K := K) (a := p) (xs := [.bl (isNm x), .bl (isNm x)]) (fun i σ H' => ∃ y2 y4, σ = [some (.ref sc), some (.ref d), y2, some x, y4] ∧ DrC H' d c ∧ KindV K H' x ∧ H' p = some (.lst [.bl (isNm x), .bl (isNm x)])) ⟨_, _, rfl, D3.new np, kx.mono fun a o _ e => new_same np _ _ e, upd_same⟩ (fun _ _ _ _ h => let ⟨_, _, _, _, _, e⟩ := h; SqL.of e) ?_ ?_
      · rintro j y σ H4 hj ⟨y2, y4, rfl, D4, k4, e4⟩
        have ey : y = .bl (isNm x) := by
          have := List.mem_of_getElem? hj
          simpa using this
        subst ey
        refine ⟨_, rfl, .bl (isNm x), .ty "bool", _, _, true, rfl, .ty _, .base (.bl _), kit_ty (by decide +kernel), true, rfl, ?_⟩
        refine ⟨_, rfl, _, rfl, x, rfl, k4, fun H5 s5 => ?_⟩
        refine ⟨rfl, _, rfl, ?_⟩
        rw [show (!decide (V.bl (isNm x) = V.bl (isNm x))) = false by simp]
        exact ⟨_, _, rfl, D4.same s5, k4.mono fun a o _ e => s5 _ _ e, s5 _ _ e4⟩
      · rintro σ H4 ⟨y2, y4, rfl, D4, k4, e4⟩
        exact ⟨_, _, _, rfl, D4⟩
    · rintro σ H2 ⟨y2, y3, y4, rfl, D2⟩
      exact q _
end
/-! ### what the top has written, the head -/
theorem all_mk {l : PySem.W.OpenLaw} {w : World} {K : PySem.W.Frag} {h : Heap} {mg : Str → Option Value} {fa f1 f2 f3 f4 f5 f6 f7 f8 : Addr} (X : K.In h) (G : h.Ns mainGlobals mg) (hfa : mg "law" = some (.ref fa))
    {od1 an1 od2 an2 od3 an3 od4 an4 od5 an5 od6 an6 od7 an7 od8 an8 : Option Addr} {sl1 sl2 sl3 sl4 sl5 sl6 sl7 sl8 : Array (Option Value)}
    {oc1 kV1 dc1 pm1 cd1 ct1 oc2 kV2 dc2 pm2 cd2 ct2 oc3 kV3 dc3 pm3 cd3 ct3 oc4 kV4 dc4 pm4 cd4 ct4 oc5 kV5 dc5 pm5 cd5 ct5 oc6 kV6 dc6 pm6 cd6 ct6 oc7 kV7 dc7 pm7 cd7 ct7 oc8 kV8 dc8 pm8 cd8 ct8 : Value}
    (a1 : PySem.W.nsIn K mainGlobals "is_name" = some (some (.ref f1)))
    (l1 : K.lookup f1 = some ⟨oc1, od1, .func (PySem.W.fnOf "is_name" "is_name" (defArgs s_is_name) (defBody s_is_name) (defScope s_is_name) .none kV1 dc1 pm1 an1 cd1 ct1), sl1⟩)
    (c1 : PySem.W.codeIn K cd1 "is_name" = true) (k1 : PySem.W.keepIn K (.ref f1) = true)
    (a2 : PySem.W.nsIn K mainGlobals "_law_begin" = some (some (.ref f2)))
    (l2 : K.lookup f2 = some ⟨oc2, od2, .func (PySem.W.fnOf "_law_begin" "_law_begin" (defArgs s_law_begin) (defBody s_law_begin) (defScope s_law_begin) .none kV2 dc2 pm2 an2 cd2 ct2), sl2⟩)
    (c2 : PySem.W.codeIn K cd2 "_law_begin" = true) (k2 : PySem.W.keepIn K (.ref f2) = true)
    (a3 : PySem.W.nsIn K mainGlobals "_law_take" = some (some (.ref f3)))
    (l3 : K.lookup f3 = some ⟨oc3, od3, .func (PySem.W.fnOf "_law_take" "_law_take" (defArgs s_law_take) (defBody s_law_take) (defScope s_law_take) .none kV3 dc3 pm3 an3 cd3 ct3), sl3⟩)
    (c3 : PySem.W.codeIn K cd3 "_law_take" = true) (k3 : PySem.W.keepIn K (.ref f3) = true)
    (a4 : PySem.W.nsIn K mainGlobals "_law_pick" = some (some (.ref f4)))
    (l4 : K.lookup f4 = some ⟨oc4, od4, .func (PySem.W.fnOf "_law_pick" "_law_pick" (defArgs s_law_pick) (defBody s_law_pick) (defScope s_law_pick) .none kV4 dc4 pm4 an4 cd4 ct4), sl4⟩)
    (c4 : PySem.W.codeIn K cd4 "_law_pick" = true) (k4 : PySem.W.keepIn K (.ref f4) = true)
    (a5 : PySem.W.nsIn K mainGlobals "_law_names" = some (some (.ref f5)))
    (l5 : K.lookup f5 = some ⟨oc5, od5, .func (PySem.W.fnOf "_law_names" "_law_names" (defArgs s_law_names) (defBody s_law_names) (defScope s_law_names) .none kV5 dc5 pm5 an5 cd5 ct5), sl5⟩)
    (c5 : PySem.W.codeIn K cd5 "_law_names" = true) (k5 : PySem.W.keepIn K (.ref f5) = true)
    (a6 : PySem.W.nsIn K mainGlobals "_law_thing" = some (some (.ref f6)))
    (l6 : K.lookup f6 = some ⟨oc6, od6, .func (PySem.W.fnOf "_law_thing" "_law_thing" (defArgs s_law_thing) (defBody s_law_thing) (defScope s_law_thing) .none kV6 dc6 pm6 an6 cd6 ct6), sl6⟩)
    (c6 : PySem.W.codeIn K cd6 "_law_thing" = true) (k6 : PySem.W.keepIn K (.ref f6) = true)
    (a7 : PySem.W.nsIn K mainGlobals "_law_due" = some (some (.ref f7)))
    (l7 : K.lookup f7 = some ⟨oc7, od7, .func (PySem.W.fnOf "_law_due" "_law_due" (defArgs s_law_due) (defBody s_law_due) (defScope s_law_due) .none kV7 dc7 pm7 an7 cd7 ct7), sl7⟩)
    (c7 : PySem.W.codeIn K cd7 "_law_due" = true) (k7 : PySem.W.keepIn K (.ref f7) = true)
    (a8 : PySem.W.nsIn K mainGlobals "law" = some (some (.ref f8)))
    (l8 : K.lookup f8 = some ⟨oc8, od8, .func (PySem.W.fnOf "law" "law" (defArgs s_law) (defBody s_law) (defScope s_law) .none kV8 dc8 pm8 an8 cd8 ct8), sl8⟩)
    (c8 : PySem.W.codeIn K cd8 "law" = true) (k8 : PySem.W.keepIn K (.ref f8) = true)
    (z_len : PySem.W.nsIn K mainGlobals "len" = some none)
    (z_isinstance : PySem.W.nsIn K mainGlobals "isinstance" = some none)
    (z_str : PySem.W.nsIn K mainGlobals "str" = some none)
    (z_bool : PySem.W.nsIn K mainGlobals "bool" = some none)
    (z_range : PySem.W.nsIn K mainGlobals "range" = some none)
    (z_abs : PySem.W.nsIn K mainGlobals "abs" = some none)
    : ∃ fd : FuncData, (∀ (s : Shared) (v : Value), BindsTo s fd ⟨[v], []⟩ [("script", v)]) ∧ ∀ base : Heap, K.In base → base.Ns mainGlobals mg → FnOk l.prog w K mg base CX0 5 fa fd ["script"] (spLaw K) := by
  have e := hfa.symm.trans (PySem.W.mg_of X G a8)
  cases e
  have T : TM mg := ⟨PySem.W.mg_none_of X G z_len, PySem.W.mg_none_of X G z_isinstance, PySem.W.mg_none_of X G z_str, PySem.W.mg_none_of X G z_bool, PySem.W.mg_none_of X G z_range, PySem.W.mg_none_of X G z_abs⟩
  have A : TF K mg ⟨f1, f2, f3, f4, f5, f6, f7⟩ := ⟨PySem.W.mg_of X G a1, PySem.W.mg_of X G a2, PySem.W.mg_of X G a3, PySem.W.mg_of X G a4, PySem.W.mg_of X G a5, PySem.W.mg_of X G a6, PySem.W.mg_of X G a7⟩
  have F_is_name := fun_mk (st := s_is_name) l1 c1 k1
  have b_is_name := F_is_name.binds (ps := ["thing"]) fun _ _ _ _ _ _ us hl => match us, hl with | [_], _ => rfl
  have F_law_begin := fun_mk (st := s_law_begin) l2 c2 k2
  have b_law_begin := F_law_begin.binds (ps := ["script"]) fun _ _ _ _ _ _ us hl => match us, hl with | [_], _ => rfl
  have F_law_take := fun_mk (st := s_law_take) l3 c3 k3
  have b_law_take := F_law_take.binds (ps := ["draw", "size"]) fun _ _ _ _ _ _ us hl => match us, hl with | [_, _], _ => rfl
  have F_law_pick := fun_mk (st := s_law_pick) l4 c4 k4
  have b_law_pick := F_law_pick.binds (ps := ["draw", "some"]) fun _ _ _ _ _ _ us hl => match us, hl with | [_, _], _ => rfl
  have F_law_names := fun_mk (st := s_law_names) l5 c5 k5
  have b_law_names := F_law_names.binds (ps := ["draw", "many"]) fun _ _ _ _ _ _ us hl => match us, hl with | [_, _], _ => rfl
  have F_law_thing := fun_mk (st := s_law_thing) l6 c6 k6
  have b_law_thing := F_law_thing.binds (ps := ["draw"]) fun _ _ _ _ _ _ us hl => match us, hl with | [_], _ => rfl
  have F_law_due := fun_mk (st := s_law_due) l7 c7 k7
  have b_law_due := F_law_due.binds (ps := ["some"]) fun _ _ _ _ _ _ us hl => match us, hl with | [_], _ => rfl
  have F_law := fun_mk (st := s_law) l8 c8 k8
  have kb_is_name := kb_one (y := "thing") F_is_name fun _ _ _ _ _ _ _ => ⟨rfl, rfl⟩
  exact ⟨PySem.W.fnOf "law" "law" (defArgs s_law) (defBody s_law) (defScope s_law) .none kV8 dc8 pm8 an8 cd8 ct8, fun s v => .of_eq rfl, fun base _ _ => ok_law F_law T A F_is_name b_is_name kb_is_name F_law_begin b_law_begin F_law_take b_law_take F_law_pick b_law_pick F_law_names b_law_names F_law_thing b_law_thing F_law_due b_law_due⟩
end K08
open PySem PySem.W PyProof.Rows
set_option maxHeartbeats 0 in
theorem PySem.Challenge.cw_playstead_k08_names_holds : PySem.Challenge.rw_playstead_k08_names.Holds := by
  w_on; o_law; k_head; (case hw => w_witness2)
  k_fill
  refine L2.walk_of (l := PySem.Challenge.rw_playstead_k08_names) (n := 63) (k := 5) (x := "script") (CX := fun _ => L2.CX0) (sp := fun w => K08.spLaw _) rfl (by decide) rfl ⟨rfl, by decide, by decide⟩ (fun w h Y => PySem.W.kIn_of Y) ?F (fun _ _ a ns hl _ hS => ⟨a, ns, rfl, hS, hl, fun _ => rfl⟩) (fun _ _ _ _ _ h => h)
  case F =>
    intro w mg fa h KX G hmg
    refine' K08.all_mk KX G hmg ?a1 ?l1 ?c1 ?k1 ?a2 ?l2 ?c2 ?k2 ?a3 ?l3 ?c3 ?k3 ?a4 ?l4 ?c4 ?k4 ?a5 ?l5 ?c5 ?k5 ?a6 ?l6 ?c6 ?k6 ?a7 ?l7 ?c7 ?k7 ?a8 ?l8 ?c8 ?k8 ?z_len ?z_isinstance ?z_str ?z_bool ?z_range ?z_abs
    (case a1 => k_is)
    (case l1 => k_is)
    (case c1 => k_is)
    (case k1 => k_is)
    (case a2 => k_is)
    (case l2 => k_is)
    (case c2 => k_is)
    (case k2 => k_is)
    (case a3 => k_is)
    (case l3 => k_is)
    (case c3 => k_is)
    (case k3 => k_is)
    (case a4 => k_is)
    (case l4 => k_is)
    (case c4 => k_is)
    (case k4 => k_is)
    (case a5 => k_is)
    (case l5 => k_is)
    (case c5 => k_is)
    (case k5 => k_is)
    (case a6 => k_is)
    (case l6 => k_is)
    (case c6 => k_is)
    (case k6 => k_is)
    (case a7 => k_is)
    (case l7 => k_is)
    (case c7 => k_is)
    (case k7 => k_is)
    (case a8 => k_is)
    (case l8 => k_is)
    (case c8 => k_is)
    (case k8 => k_is)
    (case z_len => k_is)
    (case z_isinstance => k_is)
    (case z_str => k_is)
    (case z_bool => k_is)
    (case z_range => k_is)
    (case z_abs => k_is)
