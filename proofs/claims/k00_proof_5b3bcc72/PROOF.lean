import PyProof.Rows.All
import Wide.All
import OpenK.AllK
import Wide.FinOn
import HandS.ForMost
import HandS.Wide
import HandS.IsInst
import HandS.Exc
import HandS.WordsExc
import HandS.ExcInit
import HandS.FStr
import HandS.ClsMeth
import HandS.ExcCtx
import KE.KExcIs
import HandS.ExcField
import HandS.FStrTup
import PyProof.ReprNest
import HandS.HotCalls
import PySem.Challenge.RW_figurehold_k00_errors
set_option Elab.async false
set_option linter.all false
set_option maxRecDepth 100000
set_option maxHeartbeats 4000000
/-! The law's own reader of its script: flow, load, draw, pick. -/
namespace K0
open PySem L2
def top (i : Nat) : Stmt := PySem.Challenge.pw_figurehold_k00_errors.main.body.getD i (.Pass ⟨0, 0, 0, 0⟩)
abbrev sFlow : Stmt := top 13
abbrev sLoad : Stmt := top 14
abbrev sDraw : Stmt := top 15
abbrev sPick : Stmt := top 16
/-- at p the reader: its cells at l, how many are read, what is left of one, how many draws, the mixed number, the kind -/
def row (l : Addr) (i c n m b : Int) : List V := [.ref l, .int i, .int c, .int n, .int m, .int b]
def FlowAt (H : Hp) (p : Addr) : Prop := ∃ (l : Addr) (ns : List Int) (i c n m b : Int), H p = some (.lst (row l i c n m b)) ∧ H l = some (.lst (ns.map V.int)) ∧ 0 ≤ i
theorem flow_ne {H : Hp} {p l : Addr} {ns : List Int} {i c n m b : Int} (h1 : H p = some (.lst (row l i c n m b))) (h2 : H l = some (.lst (ns.map V.int))) : l ≠ p := fun z => by
  rw [z, h1] at h2
  cases ns with
  | nil => cases h2
  | cons x xs => cases h2
theorem FlowAt.put {H : Hp} {p l : Addr} {ns : List Int} {i c n m b : Int} (h1 : H p = some (.lst (row l i c n m b))) (h2 : H l = some (.lst (ns.map V.int))) {i' c' n' m' b' : Int} (h : 0 ≤ i') :
    FlowAt (upd H p (.lst (row l i' c' n' m' b'))) p := ⟨l, ns, i', c', n', m', b', upd_same, by rw [upd_ne (flow_ne h1 h2)]; exact h2, h⟩
theorem FlowAt.up {H : Hp} {p : Addr} (h : FlowAt H p) {q : Addr} {o : HO} (hn : H q = none) : FlowAt (upd H q o) p := by
  obtain ⟨l, ns, i, c, n, m, b, h1, h2, h3⟩ := h
  exact ⟨l, ns, i, c, n, m, b, by rw [upd_ne (ne_of_none h1 hn)]; exact h1, by rw [upd_ne (ne_of_none h2 hn)]; exact h2, h3⟩
def spLoad : Sp := fun vs H Q _ => ∃ p : Addr, vs = [.ref p] ∧ FlowAt H p ∧ ∀ xs, FlowAt (upd H p (.lst xs)) p → Q .non (upd H p (.lst xs))
def spDraw : Sp := fun vs H Q _ => ∃ (p : Addr) (k : Int), vs = [.ref p, .int k] ∧ FlowAt H p ∧ k.natAbs < 2 ^ 8000 ∧ ∀ z xs, 0 ≤ z → (z < k ∨ z = 0) → FlowAt (upd H p (.lst xs)) p → Q (.int z) (upd H p (.lst xs))
def spPick : Sp := fun vs H Q _ => ∃ (p q : Addr) (ys : List V), vs = [.ref p, .ref q] ∧ FlowAt H p ∧ H q = some (.lst ys) ∧ q ≠ p ∧ ys ≠ [] ∧ ys.length ≤ 1000 ∧ ∀ v xs, v ∈ ys → FlowAt (upd H p (.lst xs)) p → Q v (upd H p (.lst xs))
def spFlow (K : PySem.W.Frag) : Sp := fun vs H Q _ => ∃ (a : Addr) (ns : List Int), vs = [.ref a] ∧ SqL K H a (ns.map V.int) ∧ ∀ H' p, Same H H' → H p = none → FlowAt H' p → Q (.ref p) H'
structure FlowTxt (mg : Str → Option Value) (fL fD : Addr) (K : PySem.W.Frag) : Prop where
  len : mg "len" = none
  int : mg "int" = none
  abs : mg "abs" = none
  max : mg "max" = none
  list : mg "list" = none
  gL : mg "_law_load" = some (.ref fL)
  kL : PySem.W.keepIn K (.ref fL) = true
  gD : mg "_law_draw" = some (.ref fD)
  kD : PySem.W.keepIn K (.ref fD) = true
section
variable {P : Program} {w : World} {K : PySem.W.Frag} {mg : Str → Option Value} {base : Heap} {fL fD : Addr}
theorem scL : FnScope ["flow", "cell"] ["flow"] (defScope sLoad) := ⟨rfl, rfl, rfl, by decide +kernel, rfl, by decide +kernel, by decide +kernel⟩
theorem ok_load {f : Addr} {fd : FuncData} (F : Fun K "_law_load" "_law_load" sLoad f fd) (T : FlowTxt mg fL fD K) : FnOk P w K mg base CX0 1 f fd ["flow"] spLoad := by
  refine F.ok scL (fun vs H Q E h => ?_) (fun cdv A outer s H vs Q E hr h => ?_)
  · obtain ⟨p, rfl, _⟩ := h
    rfl
  · obtain ⟨p, rfl, ⟨l, ns, i, c, n, m, b, h1, h2, h3⟩, k⟩ := h
    refine ⟨_, pss_cons (ps_if (pt_cmpR op_ge (pe_ix ix_list (pv 0) pe_int (fun _ _ => rfl)) (pe_callB call_len_seq (by rfl) T.len PySem.boot_len (pa_cons (pe_ix ix_list (pv 0) pe_int (fun _ _ => rfl)) pa_nil)) (nomark _))
        (pss_cons (ps_asg pe_int (pg_sub (pv 0) pe_int set_list)) (pss_cons (ps_asg pe_int (pg_sub (pv 0) pe_int set_list)) (pss_cons (ps_asg pe_int (pg_sub (pv 0) pe_int set_list)) (pss_one ps_retN)))) pss_nil)
      (pss_cons (ps_set (i := 1) scL.nd rfl (Or.inl rfl) (pe_callTy call_int1 (by rfl) T.int (by decide +kernel) (pa_cons (pe_ix ix_list (pe_ix ix_list (pv 0) pe_int (fun _ _ => rfl)) (pe_ix ix_list (pv 0) pe_int (fun _ _ => rfl)) (fun _ _ => rfl)) pa_nil)))
      (pss_cons (ps_asg (pe_op op_add (pe_ix ix_list (pv 0) pe_int (fun _ _ => rfl)) pe_int) (pg_sub (pv 0) pe_int set_list))
      (pss_cons (ps_asg (pe_op op_fdiv (pe_callB call_abs (by rfl) T.abs (by decide +kernel) (pa_cons (pv 1) pa_nil)) pe_int) (pg_sub (pv 0) pe_int set_list))
      (pss_cons (ps_asg pe_int (pg_sub (pv 0) pe_int set_list))
      (pss_cons (ps_asg (pe_op op_mod (pe_callTy call_int1 (by rfl) T.int (by decide +kernel) (pa_cons (pv 1) pa_nil)) pe_int) (pg_sub (pv 0) pe_int set_list))
      (pss_one (ps_if (pt_cmpR op_eq (pe_ix ix_list (pv 0) pe_int (fun _ _ => rfl)) pe_int (nomark _))
        (pss_cons (ps_asg (pe_op op_mod (pe_callTy call_int1 (by rfl) T.int (by decide +kernel) (pa_cons (pe_ix ix_list (pv 0) pe_int (fun _ _ => rfl)) pa_nil)) pe_int) (pg_sub (pv 0) pe_int set_list))
          (pss_one (ps_asg pe_int (pg_sub (pv 0) pe_int set_list)))) pss_nil))))))), ?_⟩
    have hn := flow_ne h1 h2
    have go : ∀ {G : Hp} {xs : List V}, Q .non (upd H p (.lst xs)) → G = upd H p (.lst xs) → Q .non G := fun q e => by rw [e]; exact q
    -- flow[1] >= len(flow[0])
    refine ⟨_, rfl, p, _, _, _, rfl, rfl, SqL.of h1, rfl, _, rfl, p, _, _, _, rfl, rfl, SqL.of h1, rfl, l, _, rfl, .inl (SqL.of h2), _, _, rfl, rfl, _, rfl, ?_⟩
    refine ite2 (fun hc => ?_) (fun hc => ?_)
    · refine ⟨_, rfl, p, _, _, _, rfl, rfl, h1, rfl, _, rfl, p, _, _, _, rfl, rfl, upd_same, rfl, _, rfl, p, _, _, _, rfl, rfl, upd_same, rfl, ?_⟩
      show Q .non _
      rw [upd_upd, upd_upd]
      exact k _ (FlowAt.put h1 h2 h3)
    · have hc' : i < ((ns.map V.int).length : Nat) := by
        have z : ¬ (((ns.map V.int).length : Nat) : Int) ≤ i := fun q => hc (decide_eq_true q)
        omega
      obtain ⟨j, rfl⟩ : ∃ j : Nat, i = j := ⟨i.toNat, by omega⟩
      have hj : j < ns.length := by
        rw [List.length_map] at hc'
        omega
      have hv : (ns.map V.int)[j]? = some (V.int ns[j]) := by simp [hj]
      refine ⟨_, rfl, p, _, _, _, rfl, rfl, SqL.of h1, rfl, _, rfl, p, _, _, _, rfl, rfl, SqL.of h1, rfl, l, _, _, _, rfl, rfl, SqL.of h2, atI_nat hv, .inl ⟨_, rfl, ?_⟩⟩
      refine ⟨_, rfl, p, _, _, _, rfl, rfl, SqL.of h1, rfl, _, _, rfl, rfl, ?_⟩
      refine ⟨_, rfl, p, _, _, _, rfl, rfl, h1, rfl, ?_⟩
      refine ⟨_, rfl, _, rfl, _, _, rfl, rfl, ⟨by decide, by decide⟩, _, rfl, p, _, _, _, rfl, rfl, upd_same, rfl, ?_⟩
      refine ⟨_, rfl, p, _, _, _, rfl, rfl, upd_same, rfl, ?_⟩
      refine ⟨_, rfl, .inl ⟨_, rfl, _, _, rfl, rfl, (by show (0 : Int) < 2; decide), _, rfl, p, _, _, _, rfl, rfl, upd_same, rfl, ?_⟩⟩
      refine ⟨_, rfl, p, _, _, _, rfl, rfl, SqL.of upd_same, rfl, rfl, _, rfl, ?_⟩
      refine ite2 (fun _ => ?_) (fun _ => ?_)
      · refine ⟨_, rfl, p, _, _, _, rfl, rfl, SqL.of upd_same, rfl, .inl ⟨_, rfl, _, _, rfl, rfl, (by show (0 : Int) < 2147483629; decide), _, rfl, p, _, _, _, rfl, rfl, upd_same, rfl, ?_⟩⟩
        refine ⟨_, rfl, p, _, _, _, rfl, rfl, upd_same, rfl, ?_⟩
        show Q .non _
        simp only [upd_upd]
        exact k _ (FlowAt.put h1 h2 (by omega))
      · show Q .non _
        simp only [upd_upd]
        exact k _ (FlowAt.put h1 h2 (by omega))
theorem scD : FnScope ["flow", "many", "drawn"] ["flow", "many"] (defScope sDraw) := ⟨rfl, rfl, rfl, by decide +kernel, rfl, by decide +kernel, by decide +kernel⟩
theorem max1_pos (k : Int) : (0 : Int) < (if k > 1 then k else 1) := by
  split <;> omega
theorem max1_of {k z : Int} (h : z < (if k > 1 then k else 1)) (h0 : 0 ≤ z) : z < k ∨ z = 0 := by
  split at h
  · exact .inl h
  · exact .inr (by omega)
theorem max1_wide {c k : Int} (h : k.natAbs < 2 ^ 8000) : CDivW c (if k > 1 then k else 1) := by
  refine wide_div (max1_pos k) (b := 8000) ?_ (by decide) (by decide)
  split
  · exact h
  · exact Nat.lt_of_lt_of_le (by decide : (1 : Int).natAbs < 2 ^ 1) (Nat.pow_le_pow_right (by decide) (by decide))
theorem ok_draw {f : Addr} {fd fdL : FuncData} (F : Fun K "_law_draw" "_law_draw" sDraw f fd) (FL : Fun K "_law_load" "_law_load" sLoad fL fdL) (bL : Binds K fdL ["flow"] []) (T : FlowTxt mg fL fD K) : FnOk P w K mg base CX0 2 f fd ["flow", "many"] spDraw := by
  have GL : FnOk P w K mg base CX0 1 fL fdL ["flow"] spLoad := ok_load FL T
  refine F.ok scD (fun vs H Q E h => ?_) (fun cdv A outer s H vs Q E hr h => ?_)
  · obtain ⟨p, k, rfl, _⟩ := h
    rfl
  · obtain ⟨p, k, rfl, hf, hk, go⟩ := h
    refine ⟨_, pss_cons (ps_if (pt_cmpR op_eq (pe_ix ix_list (pv 0) pe_int (fun _ _ => rfl)) pe_int (nomark _)) (pss_one (ps_expr (pe_call GL hr rfl T.gL T.kL bL .nil pass0 (pa_cons (pv 0) pa_nil)))) pss_nil)
      (pss_cons (ps_asg (pe_op op_sub (pe_ix ix_list (pv 0) pe_int (fun _ _ => rfl)) pe_int) (pg_sub (pv 0) pe_int set_list))
      (pss_cons (ps_if (pt_cmpR op_eq (pe_ix ix_list (pv 0) pe_int (fun _ _ => rfl)) pe_int (nomark _))
        (pss_cons (ps_asg (pe_op op_mod (pe_callTy call_int1 (by rfl) T.int (by decide +kernel) (pa_cons (pe_op op_add (pe_op op_add (pe_op op_mul (pe_ix ix_list (pv 0) pe_int (fun _ _ => rfl)) pe_int) (pe_ix ix_list (pv 0) pe_int (fun _ _ => rfl))) pe_int) pa_nil)) pe_int) (pg_sub (pv 0) pe_int set_list))
          (pss_one (ps_ret (pe_op op_modN (pe_callTy call_int1 (by rfl) T.int (by decide +kernel) (pa_cons (pe_op op_fdiv (pe_ix ix_list (pv 0) pe_int (fun _ _ => rfl)) pe_int) pa_nil))
            (pe_callB (call_max2 rfl) (by rfl) T.max (by decide +kernel) (pa_cons pe_int (pa_cons (pv 1) pa_nil))))))) pss_nil)
      (pss_cons (ps_set (i := 2) scD.nd rfl (Or.inl rfl) (pe_op op_modN (pe_callTy call_int1 (by rfl) T.int (by decide +kernel) (pa_cons (pe_ix ix_list (pv 0) pe_int (fun _ _ => rfl)) pa_nil))
            (pe_callB (call_max2 rfl) (by rfl) T.max (by decide +kernel) (pa_cons pe_int (pa_cons (pv 1) pa_nil)))))
      (pss_cons (ps_asg (pe_op op_fdivW (pe_ix ix_list (pv 0) pe_int (fun _ _ => rfl)) (pe_callB (call_max2 rfl) (by rfl) T.max (by decide +kernel) (pa_cons pe_int (pa_cons (pv 1) pa_nil)))) (pg_sub (pv 0) pe_int set_list))
      (pss_cons (ps_if (pt_cmpR op_eq (pe_ix ix_list (pv 0) pe_int (fun _ _ => rfl)) pe_int (nomark _)) (pss_one (ps_asg pe_int (pg_sub (pv 0) pe_int set_list))) pss_nil)
      (pss_one (ps_ret (pv 2)))))))), ?_⟩
    have hf0 := hf
    obtain ⟨l0, ns0, i0, c0, n0, m0, b0, g1, g2, g3⟩ := hf0
    refine ⟨_, rfl, p, _, _, _, rfl, rfl, SqL.of g1, rfl, rfl, _, rfl, ?_⟩
    refine ite2 (fun _ => ⟨_, rfl, p, rfl, hf, fun xs hff => ?a⟩) (fun _ => ?b)
    case' a =>
      have hup : ∀ o, upd (upd H p (.lst xs)) p o = upd H p o := fun _ => upd_upd
      generalize upd H p (.lst xs) = G at hff hup ⊢
    case' b =>
      refine (?_ : ∀ G : Hp, FlowAt G p → (∀ o, upd G p o = upd H p o) → (?t2 : Hp → Prop) G) H hf (fun _ => rfl)
      intro G hff hup
    all_goals
      obtain ⟨l, ns, i, c, n, m, b, h1, h2, h3⟩ := hff
      refine ⟨_, rfl, p, _, _, _, rfl, rfl, SqL.of h1, rfl, _, _, rfl, rfl, _, rfl, p, _, _, _, rfl, rfl, h1, rfl, ?_⟩
      refine ⟨_, rfl, p, _, _, _, rfl, rfl, SqL.of upd_same, rfl, rfl, _, rfl, ?_⟩
      refine ite2 (fun _ => ?_) (fun _ => ?_)
      · refine ⟨_, rfl, p, _, _, _, rfl, rfl, SqL.of upd_same, rfl, _, _, rfl, rfl, .inr (by decide), ?_⟩
        refine ⟨_, rfl, p, _, _, _, rfl, rfl, SqL.of upd_same, rfl, _, _, rfl, rfl, _, _, rfl, rfl, .inl ⟨_, rfl, ?_⟩⟩
        refine ⟨_, _, rfl, rfl, (by show (0 : Int) < 2147483647; decide), _, rfl, p, _, _, _, rfl, rfl, upd_same, rfl, ?_⟩
        refine ⟨_, rfl, p, _, _, _, rfl, rfl, SqL.of upd_same, rfl, _, _, rfl, rfl, ⟨by decide, by decide⟩, .inl ⟨_, rfl, ?_⟩⟩
        refine ⟨_, rfl, _, _, rfl, _, _, rfl, rfl, Int.ne_of_gt (max1_pos k), ?_⟩
        show Q (.int _) _
        simp only [upd_upd, hup]
        refine go _ _ (Int.fmod_nonneg_of_pos _ (max1_pos k)) (max1_of (Int.fmod_lt_of_pos _ (max1_pos k)) (Int.fmod_nonneg_of_pos _ (max1_pos k))) ?_
        rw [← hup]
        exact FlowAt.put h1 h2 h3
      · refine ⟨_, rfl, p, _, _, _, rfl, rfl, SqL.of upd_same, rfl, .inl ⟨_, rfl, ?_⟩⟩
        refine ⟨_, rfl, _, _, rfl, _, _, rfl, rfl, Int.ne_of_gt (max1_pos k), ?_⟩
        refine ⟨_, rfl, p, _, _, _, rfl, rfl, SqL.of upd_same, rfl, _, rfl, _, _, rfl, _, _, rfl, rfl, max1_wide hk, ?_⟩
        refine ⟨_, rfl, p, _, _, _, rfl, rfl, upd_same, rfl, ?_⟩
        refine ⟨_, rfl, p, _, _, _, rfl, rfl, SqL.of upd_same, rfl, rfl, _, rfl, ?_⟩
        refine ite2 (fun _ => ?_) (fun _ => ?_)
        · refine ⟨_, rfl, p, _, _, _, rfl, rfl, upd_same, rfl, _, rfl, ?_⟩
          show Q (.int _) _
          simp only [upd_upd, hup]
          refine go _ _ (Int.fmod_nonneg_of_pos _ (max1_pos k)) (max1_of (Int.fmod_lt_of_pos _ (max1_pos k)) (Int.fmod_nonneg_of_pos _ (max1_pos k))) ?_
          rw [← hup]
          exact FlowAt.put h1 h2 h3
        · refine ⟨_, rfl, ?_⟩
          show Q (.int _) _
          simp only [upd_upd, hup]
          refine go _ _ (Int.fmod_nonneg_of_pos _ (max1_pos k)) (max1_of (Int.fmod_lt_of_pos _ (max1_pos k)) (Int.fmod_nonneg_of_pos _ (max1_pos k))) ?_
          rw [← hup]
          exact FlowAt.put h1 h2 h3
theorem scP : FnScope ["flow", "things"] ["flow", "things"] (defScope sPick) := ⟨rfl, rfl, rfl, by decide +kernel, rfl, by decide +kernel, by decide +kernel⟩
theorem ok_pick {f : Addr} {fd fdD : FuncData} (F : Fun K "_law_pick" "_law_pick" sPick f fd) (GD : FnOk P w K mg base CX0 2 fD fdD ["flow", "many"] spDraw) (bD : Binds K fdD ["flow", "many"] []) (T : FlowTxt mg fL fD K) : FnOk P w K mg base CX0 3 f fd ["flow", "things"] spPick := by
  refine F.ok scP (fun vs H Q E h => ?_) (fun cdv A outer s H vs Q E hr h => ?_)
  · obtain ⟨p, q, ys, rfl, _⟩ := h
    rfl
  · obtain ⟨p, q, ys, rfl, hf, hq, hne, hy, hlen, go⟩ := h
    refine ⟨_, pss_one (ps_ret (pe_ix ix_list (pv 1) (pe_call GD hr rfl T.gD T.kD bD .nil pass0 (pa_cons (pv 0) (pa_cons (pe_callB call_len_seq (by rfl) T.len PySem.boot_len (pa_cons (pv 1) pa_nil)) pa_nil))) (fun _ _ => rfl))), ?_⟩
    have hl : ys.length ≠ 0 := fun z => hy (List.length_eq_zero_iff.mp z)
    have hw : ((ys.length : Nat) : Int).natAbs < 2 ^ 8000 := by
      rw [Int.natAbs_natCast]
      exact Nat.lt_of_le_of_lt hlen (Nat.lt_of_lt_of_le (by decide : 1000 < 2 ^ 10) (Nat.pow_le_pow_right (by decide) (by decide)))
    refine ⟨_, rfl, _, rfl, _, rfl, q, _, rfl, .inl (SqL.of hq), p, _, rfl, hf, hw, fun z xs h0 hz hff => ?_⟩
    obtain ⟨j, rfl⟩ : ∃ j : Nat, z = j := ⟨z.toNat, by omega⟩
    have hj : j < ys.length := by omega
    have hv : ys[j]? = some ys[j] := by simp [hj]
    exact ⟨q, ys, _, _, rfl, rfl, SqL.of (by rw [upd_ne hne]; exact hq), atI_nat hv, go _ _ (List.getElem_mem hj) hff⟩
theorem scF : FnScope ["script", "mixed", "cell"] ["script"] (defScope sFlow) := ⟨rfl, rfl, rfl, by decide +kernel, rfl, by decide +kernel, by decide +kernel⟩
theorem ok_flow {f : Addr} {fd : FuncData} (F : Fun K "_law_flow" "_law_flow" sFlow f fd) (T : FlowTxt mg fL fD K) : FnOk P w K mg base CX0 1 f fd ["script"] (spFlow K) := by
  refine F.ok scF (fun vs H Q E h => ?_) (fun cdv A outer s H vs Q E hr h => ?_)
  · obtain ⟨a, ns, rfl, _⟩ := h
    rfl
  · obtain ⟨a, ns, rfl, hS, go⟩ := h
    refine ⟨_, pss_cons (ps_set (i := 1) scF.nd rfl (Or.inl rfl) pe_int)
      (pss_cons (ps_for PassesOwn.never rfl (pi_list (pv 0)) (pg_name (i := 2) scF.nd rfl (Or.inl rfl))
        (pss_one (ps_set (i := 1) scF.nd rfl (Or.inl rfl) (pe_op op_mod (pe_callTy call_int1 (by rfl) T.int (by decide +kernel) (pa_cons (pe_op op_add (pe_op op_mul (pv 1) pe_int) (pe_callTy call_int1 (by rfl) T.int (by decide +kernel) (pa_cons (pv 2) pa_nil))) pa_nil)) pe_int))))
      (pss_one (ps_ret (pe_lst (pa_cons (pe_callTy call_list_of (by rfl) T.list (by decide +kernel) (pa_cons (pv 0) pa_nil)) (pa_cons pe_int (pa_cons pe_int (pa_cons pe_int (pa_cons (pv 1) (pa_cons pe_int pa_nil)))))))))), ?_⟩
    refine ⟨_, rfl, a, rfl, ⟨_, hS⟩, for_list (K := K) (a := a) (xs := ns.map V.int) (fun i σ H' => ∃ (m : Int) (v : Option V), σ = [some (.ref a), some (.int m), v] ∧ H' = H) ⟨1, none, rfl, rfl⟩ (fun i σ H' _ ⟨_, _, _, e⟩ => by rw [e]; exact hS) ?_ ?_⟩
    · rintro i y σ H' hi ⟨m, v, rfl, rfl⟩
      obtain ⟨u, rfl⟩ : ∃ u, y = V.int u := by
        rw [List.getElem?_map] at hi
        cases e : ns[i]? with
        | none =>
          rw [e] at hi
          cases hi
        | some u =>
          rw [e] at hi
          exact ⟨u, (Option.some.inj hi).symm⟩
      refine ⟨_, rfl, _, _, rfl, rfl, .inr (by decide), _, rfl, .inl ⟨_, rfl, _, _, rfl, rfl, .inl ⟨_, rfl, ?_⟩⟩⟩
      exact ⟨_, _, rfl, rfl, (by show (0 : Int) < 2147483647; decide), _, _, rfl, rfl⟩
    · rintro σ H' ⟨m, v, rfl, rfl⟩
      refine ⟨_, rfl, a, _, rfl, .inl hS, fun l hl => ?_⟩
      refine ⟨_, rfl, (by show 6 ≤ sizeLine; decide), fun p hp => ?_⟩
      have npl : l ≠ p := fun z => by rw [z] at hl; rw [z, upd_same] at hp; cases hp
      have hp0 : H' p = none := by rw [upd_ne npl.symm] at hp; exact hp
      refine go _ p (fun b o e => ?_) hp0 ⟨l, ns, 0, 0, 0, m, 0, upd_same, by rw [upd_ne npl]; exact upd_same, by decide⟩
      rw [upd_ne (ne_of_none e hp0), upd_ne (ne_of_none e hl)]
      exact e
end
end K0

set_option Elab.async false
set_option linter.all false
set_option maxRecDepth 100000
set_option maxHeartbeats 4000000
/-! Errors of own classes under an own base under Exception; each __init__ calls the base's, then keeps one field. -/
namespace PySem
namespace OwnErr
open PySem.W PySem.Calls PyProof.Rows PySem.HandSPX Builtin Builtin.ObjectAttr
def endE : List Value := [.type "Exception", .type "BaseException", .type "object"]
/-- a class's ancestors: own classes, then Exception's -/
def Line (l : List Value) : Prop := ∃ own : List Addr, l = own.map Value.ref ++ endE
theorem Line.cons {l : List Value} {C : Addr} (h : Line l) : Line (.ref C :: l) := by
  obtain ⟨own, e⟩ := h
  exact ⟨C :: own, by rw [e]; rfl⟩
theorem Line.has {l : List Value} (h : Line l) (T : String) : l.contains (.type T) = endE.contains (.type T) := by
  obtain ⟨own, rfl⟩ := h
  induction own with
  | nil => rfl
  | cons c r ih =>
    show List.contains (Value.ref c :: (r.map Value.ref ++ endE)) (Value.type T) = _
    rw [List.contains_cons, ih]
    exact Bool.false_or _
theorem Line.pass {l : List Value} (h : Line l) (me : Value) : refuseLoop me "__setattr__" l = pure () := by
  obtain ⟨own, rfl⟩ := h
  induction own with
  | nil => exact F.store_Exception.passes me
  | cons c r ih =>
    show refuseLoop me "__setattr__" (Value.ref c :: (r.map Value.ref ++ endE)) = _
    rw [refuseLoop_ref, ih]
theorem Line.some {l : List Value} (h : Line l) : l.isEmpty = false := by
  obtain ⟨own, rfl⟩ := h
  cases own <;> rfl
section
variable {prog : Program} {w : World} {A : Around} {E : Value → Shared → Prop} {R : Result → Shared → Prop} {hp : Heap} {g : Array GenState} {d : Drawn} {t : Nat} {os : OsState}
/-- the first field of an error at e that has no dict as yet: the dict at dx is laid -/
theorem first_field {K : W.Frag} {name : Str} {tk : Tok} {v : Value} {e C : Addr} {vs : Array Value} {cd : ClassData} (kin : K.In hp) (he : hp.get? e = some { cls := .ref C, data := .fields vs })
    (hcd : W.clsIn K C = some cd) (hl : Line cd.mro) (hh : cd.hasDict = true) (no : W.findIn K (.ref C) name = some none)
    (go : ∀ h2 tk2 dx, (∀ b o, b ≠ e → hp.get? b = some o → h2.get? b = some o) → hp.objs.size ≤ dx → dx ≠ e → h2.get? e = some { cls := .ref C, dict := some dx, data := .fields vs } →
      h2.Ns1 dx (fun y => if y = name then some v else none) → R (.ok (.ret .none)) ⟨h2, g, d, tk2, os⟩) :
    codeAny (model prog w) A (.call (.builtin "object.__setattr__") ⟨[.ref e, .str name tk, v], []⟩) R ⟨hp, g, d, t, os⟩ := by
  have at_ : W.InstAt hp e { cls := .ref C, data := .fields vs } C none := ⟨he, rfl, rfl, trivial⟩
  have so := F.store_object
  have mro : W.Looks (model prog w) hp (mroOf (.ref C)) cd.mro := (W.looks_clsIn kin hcd).andThen .now
  have old : e ≠ hp.objs.size := Nat.ne_of_lt (Heap.lt_size he)
  have isObj : W.Looks (model prog w) hp (isInstance (.ref e) (.type "object")) true :=
    at_.type.andThen (W.looks_mroIn kin (by unfold W.mroIn; rw [hcd, Option.bind_some, hl.some, hl.has]; decide +kernel))
  have cls : W.Looks (model prog w) hp (classData C) cd := W.looks_clsIn kin hcd
  have taker : W.Looks (model prog w) hp (storeTaker? none) none := .now
  refine codeAny_call_builtin so.slot.plain so.entry (@W.check_slot (model prog w) _ _ ⟨hp, g, d, t, os⟩ "object.__setattr__" "object" "__setattr__" (.ref e) [.str name tk, v] [] _ so.kind so.split isObj (so.args (.ref e) (.str name tk) v) ?_)
  rw [W.osa_eq, refuse_eq]
  refine wpAny_bind (wpAny_bind (at_.type.at (wpAny_bind (mro.at ?_))))
  rw [hl.pass]
  refine wpAny_pure (wpAny_bind (at_.type.at (wpAny_bind ((W.looks_findIn kin no).at (wpAny_bind (taker.at ?_))))))
  obtain ⟨_, _, _, _, _, hd, _, _, _, _, _⟩ := cd
  obtain rfl : hd = true := hh
  show wpAny _ _ (storeInOwnDict (.ref e) (.ref C) (.str name tk) name v false) _ _ _
  unfold storeInOwnDict ownDictForStores
  repeat (first | with_reducible refine HandSPX.store_in_new ?_ ?_ | with_reducible refine wpAny_loadPart_at he ?_ | with_reducible refine cls.at ?_ | wp_step)
  · exact ⟨_, #[], _, (Heap.get?_update_ne _ _ _ _ old.symm).trans (Heap.get?_push_at rfl rfl), rfl, fun z hz => absurd hz (by simp), fun _ => rfl⟩
  · intro h2 tk2 hn hs
    have there : (hp.push { cls := .type "dict", data := .dict #[] }).get? e = some { cls := .ref C, data := .fields vs } := Heap.get?_push_of_some _ he
    exact go h2 tk2 hp.objs.size (fun b o hb ho => (hs.2 b (Nat.ne_of_lt (Heap.lt_size ho))).trans ((Heap.get?_update_ne _ _ _ _ hb).trans (Heap.get?_push_of_some _ ho))) (Nat.le_refl _) old.symm
      ((hs.2 e old).trans (Heap.get?_update_self _ there rfl)) hn
end
end OwnErr
end PySem

namespace L2
open PySem PySem.Spec PyProof.Rows
/-- what the written part says of such a class -/
structure ErrC (K : PySem.W.Frag) (C : Addr) : Prop where
  cls : ∃ nm q N bs bm sn sub ab col dd k0 k1 k2 k3 k5, K.lookup C = some (excClassObj nm q C N bs bm true sn sub ab col dd k0 k1 k2 k3 k5 "Exception.__new__") ∧ PySem.OwnErr.Line bm
  sa : PySem.W.findIn K (.ref C) "__setattr__" = some (some (.builtin "object.__setattr__"))
  exC : PySem.W.subIn K (.ref C) (.type "BaseException") = some true
  tyC : PySem.W.typeIn K (.ref C) = some (.type "type")
  kC : PySem.W.keepIn K (.ref C) = true
/-- .. and of the base whose __init__ is called by name -/
structure BaseC (K : PySem.W.Frag) (B : Addr) : Prop where
  ga : PySem.W.specialIn K (.ref B) "__getattribute__" = some (some (.builtin "type.__getattribute__"))
  rd : PySem.W.readsIn (mc := .type "type") K B = true
  ini : PySem.W.findCls K (.ref B) (.type "type") "__init__" = some (.val (.builtin "Exception.__init__"))
/-- self.f = e, the error's first field -/
def tField (K : PySem.W.Frag) (f : Str) (to te : TE) : TS := fun D σ H => te σ H fun y H1 => to σ H1 fun x H2 => ∃ a C : Addr, x = .ref a ∧ ErrC K C ∧ PySem.W.findIn K (.ref C) f = some none ∧ H2 a = some (exo a C none) ∧
  ∀ dx, H2 dx = none → dx ≠ a → D.nx σ (upd (upd H2 dx (exd dx [(f, y)])) a (exo a C (some dx)))
/-- Base.__init__(self, ..) -/
def tBaseInit (K : PySem.W.Frag) (ta : TA) : TE := fun σ H Q => ta σ H fun vs H1 => ∃ (a C : Addr) (ws : List V), vs = .ref a :: ws ∧ ws.length ≤ 1000 ∧ ErrC K C ∧ H1 a = some (exo a C none) ∧ Q .non H1
/-- C(e, ..), C's own __init__ keeping sp -/
def tErr (C : Addr) (sp : Sp) (ta : TA) : St → Hp → XK → Prop := fun σ H Q => ta σ H fun vs H1 => vs.length ≤ 1000 ∧ ∀ a, H1 a = none → sp (.ref a :: vs) (upd H1 a (exo a C none))
  (fun v H2 => v = .non ∧ ∃ (d : Addr) (fs : List (Str × V)), H2 a = some (exo a C (some d)) ∧ H2 d = some (exd d fs) ∧ H1 d = none ∧ Q (.ref C) (some d) (upd (del H2 a) d (.xd fs))) (fun _ _ _ => False)
section
variable {X : Cx} {pins : List (Addr × Obj)} {σ : St} {H : Hp} {s : Shared} {a C : Addr}
theorem ErrC.data (T : ErrC X.K C) : ∃ cd, PySem.W.clsIn X.K C = some cd ∧ PySem.OwnErr.Line cd.mro ∧ cd.hasDict = true := by
  obtain ⟨nm, q, N, bs, bm, sn, sub, ab, col, dd, k0, k1, k2, k3, k5, hC, hl⟩ := T.cls
  refine ⟨{ name := nm, bases := bs, mro := .ref C :: bm, ns := N, qualname := q, hasDict := true, slotNames := sn, subclasses := sub, abstract := ab, collection := col, hasDel := false }, ?_, hl.cons, rfl⟩
  unfold PySem.W.clsIn
  rw [hC] <;> rfl
theorem field_first {f : Str} {y : V} {u : Value} {Q : Unit → Shared → Prop} {E : Value → Shared → Prop} {A : Around} (T : ErrC X.K C) (I : Inv X pins σ H s) (ea : H a = some (exo a C none)) (no : PySem.W.findIn X.K (.ref C) f = some none) (ry : RelV y u)
    (go : ∀ dx s2, H dx = none → dx ≠ a → Inv X pins σ (upd (upd H dx (exd dx [(f, y)])) a (exo a C (some dx))) s2 → Q () s2) : wpAny (model X.prog X.w) A (setAttr (.ref a) f u) Q E s := by
  obtain ⟨cd, hcd, hl, hd⟩ := T.data
  obtain ⟨t1, ho⟩ := exo_at I.hok ea
  obtain ⟨hp, g, dr, t, os⟩ := s
  refine PySem.W.set_plain I.kIn (ox := { cls := .ref C, dict := none, data := .fields #[.ref t1, .none, .none, .none, .bool false, .none] }) (od := none) ⟨ho, rfl, rfl, trivial⟩ T.sa ?_
  refine PySem.OwnErr.first_field I.kIn ho hcd hl hd no (fun h2 t2 dx keep new ne hx hn => ?_)
  have fresh : H dx = none := I.hok.fresh new
  have neD : ∀ {b : Addr} {o : Obj}, hp.get? b = some o → b ≠ dx := fun q => Nat.ne_of_lt (Nat.lt_of_lt_of_le (Heap.lt_size q) new)
  have neA : ∀ {b : Addr}, H b = none → b ≠ a := fun n z => by
    rw [z, ea] at n
    cases n
  have un : Un X.fs [] H (upd (upd H dx (exd dx [(f, y)])) a (exo a C (some dx))) hp h2 :=
    { keep := fun b o q n _ _ => keep b o (neA n) q
      slot := fun b o q n _ _ => ⟨o.slots, keep b o (neA n) q⟩
      free := fun b o q n _ => (upd_ne (neA n)).trans ((upd_ne (neD q)).trans n)
      there := fun b o q _ => by
        by_cases hb : b = a
        · exact ⟨_, hb.symm ▸ hx⟩
        · exact ⟨o, keep b o hb q⟩
      tups := fun b xs q => (upd_ne (at_ne ea q exo_tup)).trans ((upd_ne (ne_of_none q fresh)).trans q)
      frzs := fun b o v q => (upd_ne (at_ne ea q exo_frz)).trans ((upd_ne (ne_of_none q fresh)).trans q)
      tbls := fun b ps q => ⟨#[], ((upd_ne (at_ne ea q exo_tbl)).trans ((upd_ne (ne_of_none q fresh)).trans q)).trans (by simp)⟩ }
  refine go dx _ fresh ne (I.un (t' := t2) un fun b o q => ?_)
  by_cases hb : b = a
  · subst hb
    rw [upd_same] at q
    cases q
    exact exo_ok hx
  · rw [upd_ne hb] at q
    by_cases hd : b = dx
    · subst hd
      rw [upd_same] at q
      cases q
      exact exd_ok hn (relO_put (fs := []) ry fun _ => True.intro)
    · rw [upd_ne hd] at q
      refine (I.hok b o q).stay (fun c v hc z => keep c v ?_ z) (fun c hc => ?_) (fun c xs hc => ?_)
      · exact hc.elim (fun e => by rw [e]; exact hb) fun e => at_ne ea e exo_own
      · exact (upd_ne (at_ne ea hc exo_own)).trans ((upd_ne (ne_of_none hc fresh)).trans hc)
      · exact (upd_ne (at_ne ea hc exo_tup)).trans ((upd_ne (ne_of_none hc fresh)).trans hc)
theorem base_init {us : List Value} {Q : Value → Shared → Prop} {E : Value → Shared → Prop} {A : Around} (T : ErrC X.K C) (I : Inv X pins σ H s) (ea : H a = some (exo a C none)) (hl : us.length ≤ sizeLine) (go : ∀ s2, Inv X pins σ H s2 → Q .none s2) :
    wpAny (model X.prog X.w) A (call (.builtin "Exception.__init__") (.ref a :: us)) Q E s := by
  obtain ⟨nm, q, N, bs, bm, sn, sub, ab, col, dd, k0, k1, k2, k3, k5, hC, hline⟩ := T.cls
  obtain ⟨t1, ho⟩ := exo_at I.hok ea
  obtain ⟨hp, g, dr, t, os⟩ := s
  refine wpAny_call (PySem.HandSPX.init_base F.excBase_Exception (fun T => hline.has T) (I.kIn _ _ hC) ho hl fun h2 t2 keep hx => ?_)
  have eq : upd H a (exo a C none) = H := funext fun b => by
    by_cases hb : b = a
    · rw [hb, upd_same, ea]
    · rw [upd_ne hb]
  have J := I.write (t' := t) (x := a) (e := a) (o := exo a C none) (by rw [ea]; exact True.intro) (.inl rfl) keep ⟨_, hx⟩ (exo_ok hx)
  exact go _ (eq ▸ J)
end
section
variable {X : Cx} {o e : Expr} {es : List Expr} {to te : TE} {ta : TA} {f : Str} {p p' p1 p2 pos : Pos}
theorem ps_field (ho : PE X o to) (he : PE X e te) (hs : swapsWith e (some (.Attribute o f p')) pos.line X.env = pure false := by rfl) : PS X (.Assign [.Attribute o f p'] e pos) (tField X.K f to te) :=
  ⟨fun pins s σ H D I h => plainObj_wpAny_Assign_Attribute (thn (he.run pins s σ H _ I h) fun _ s1 ⟨y, H1, I1, r1, q1⟩ => thn (ho.run pins s1 σ H1 _ I1 q1) fun u s2 ⟨x, H2, I2, r2, a, C, ex, T, no, ea, q⟩ => by
    subst ex
    obtain rfl : u = Value.ref a := r2
    exact field_first T I2 ea no r1 fun dx s3 n ne J => ⟨σ, _, J, q dx n ne⟩) hs⟩
theorem pe_base {x : Str} {B : Addr} {pl : Sem Bool} (T : BaseC X.K B) (hg : Gl X x) (hm : X.mg x = some (.ref B)) (ha : PA X (e :: es) ta)
    (hc : eval (.Call (.Attribute (.Name x p1) "__init__" p2) (e :: es) [] pos) X.env = (do
      let ov ← eval (.Name x p1) X.env
      standAt p2.atName
      let (f, first) ← holding [ov] (getMethod ov "__init__" pl)
      callWith pos f first (backTo pos (starEach (e :: es) X.env)) (backToKw pos (keywordEach [] X.env))) := by rfl)
    (hdb : (x == ("__debug__" : Str)) = false := by decide) (he : starEach (e :: es) X.env = (false, eval e X.env) :: starEach es X.env := by rfl) (hpl : (backTo pos (starEach es X.env)).any (·.1) = false := by rfl) :
    PE X (.Call (.Attribute (.Name x p1) "__init__" p2) (e :: es) [] pos) (tBaseInit X.K ta) := by
  refine ⟨fun pins s σ H Q I h => ?_⟩
  refine PySem.W.methodCall_KW (ld_glob I hg hm ?_ hdb) hc
  refine PySem.W.method_cls I.kIn T.ga (PySem.W.cls_value I.kIn T.rd T.ini (by decide +kernel) ?_)
  show wpAny _ _ (callWith pos (Value.builtin "Exception.__init__") [] (backTo pos (starEach (e :: es) X.env)) []) _ _ _
  refine PyProof.Rows.callWith_method1 (thn (ha.run pos pins _ σ H _ (I.tok _) h) fun us s1 ⟨vs, H1, I1, r1, a, C, ws, ev, hl, TC, ea, q⟩ => ?_) he hpl
  subst ev
  cases r1 with
  | @cons _ u0 _ ur ra rr =>
    obtain rfl : u0 = Value.ref a := ra
    exact base_init TC I1 ea (by rw [← Paired.length rr, sizeLine_eq]; omega) fun s2 J => ⟨.non, H1, J, rfl, q⟩
theorem pmk_err {CX : CXT} {x : Str} {C fI : Addr} {k : Nat} {fd : FuncData} {ps : List Str} {sp : Sp} (T : ErrC X.K C) (iC : PySem.W.findIn X.K (.ref C) "__init__" = some (some (.ref fI))) (tI : PySem.W.typeIn X.K (.ref fI) = some (.type "function"))
    (G : FnOk X.prog X.w X.K X.mg X.base CX k fI fd ps sp) (hr : Room (k + 1) X.A) (hb : Binds X.K fd ps []) (hx : Passes CX X (fun _ _ _ => False)) (hg : Gl X x) (hm : X.mg x = some (.ref C)) (ha : PA X (e :: es) ta)
    (hdb : (x == ("__debug__" : Str)) = false := by decide) (he : starEach (e :: es) X.env = (false, eval e X.env) :: starEach es X.env := by rfl) (hpl : (backTo pos (starEach es X.env)).any (·.1) = false := by rfl) :
    L2N.PMk X (.Call (.Name x p) (e :: es) [] pos) (tErr C sp ta) := by
  intro pins s σ H Q I h
  obtain ⟨nm, q, N, bs, bm, sn, sub, ab, col, dd, k0, k1, k2, k3, k5, hC, hline⟩ := T.cls
  refine wpAny_Call_Name_kw (ld_glob I hg hm ?_ hdb)
  refine PySem.W.callWith_K (h₀ := X.base) I.ok.mod.kin T.kC (thn (ha.run pos pins s σ H _ I h) fun us s1 ⟨vs, H1, I1, r1, hz, q1⟩ => ⟨I1.kIn, ?_⟩) he hpl
  show wpAny _ _ (call (.ref C) us) _ _ _
  obtain ⟨hp, g, dr, tk, os⟩ := s1
  have big : hp.objs.size ≤ hp.objs.size + 1 := Nat.le_succ _
  have keep : ∀ b o, hp.get? b = some o → ((hp.push (PySem.W.kdv_tup us)).push (PySem.HandSPX.excO C hp.objs.size)).get? b = some o := fun _ _ z => Heap.get?_push_of_some _ (Heap.get?_push_of_some _ z)
  have made : ((hp.push (PySem.W.kdv_tup us)).push (PySem.HandSPX.excO C hp.objs.size)).get? (hp.objs.size + 1) = some (PySem.HandSPX.excO C hp.objs.size) := by heap_get
  have hq := q1 (hp.objs.size + 1) (I1.hok.fresh big)
  have I2 := I1.laid (t' := tk) (a := hp.objs.size + 1) (o := exo (hp.objs.size + 1) C none) (h' := (hp.push (PySem.W.kdv_tup us)).push (PySem.HandSPX.excO C hp.objs.size)) keep big (exo_ok made)
  have r2 : Vals (V.ref (hp.objs.size + 1) :: vs) (Value.ref (hp.objs.size + 1) :: us) := .cons rfl r1
  have len : (Value.ref (hp.objs.size + 1) :: us).length = ps.length := r2.length.symm.trans (G.len _ _ _ _ hq)
  have few : us.length ≤ sizeLine := by
    rw [← Paired.length r1, sizeLine_eq]
    omega
  have bind := hb _ (Value.ref (hp.objs.size + 1) :: us) I2.kIn (by simpa using len)
  refine wpAny_call (PySem.HandSPX.call_own F.excBase_Exception (fun T => hline.has T) (I1.kIn _ _ hC) (PySem.W.looks_findIn I1.kIn iC) (fun me => PySem.W.bind_fn I1.kIn me tI) few
    (codeAny_mono (G.run _ X.stack _ _ ⟨Value.ref (hp.objs.size + 1) :: us, []⟩ (Value.ref (hp.objs.size + 1) :: us) _ _ (fun _ _ _ => False) (hr.make C us []) (I2.env0.make C us []) (by simpa using bind) r2 hq) fun r s2 hs2 => ?_))
  match r, hs2 with
  | .error er, z => exact hx pins σ _ _ er s2 I2 z
  | .ok (.ret u), ⟨v, H2, os2, bare2, un2, hok2, rv, ev, d, fs, ea, ed, hd1, q2⟩ =>
    subst ev
    obtain ⟨h2, g2, d2, t2, os'⟩ := s2
    obtain ⟨t0, G2, J, keepG, gone, there, na⟩ := mk_end0 (d2 := d2) (t2 := t2) I1 big keep un2 hok2 os2 bare2 ea ed hd1
    exact ⟨rv, _, _, _, ⟨G2, g2, d2, t2, os'⟩, _, .ref C, some d, rfl, J, keepG, gone, there, ⟨rfl, rfl, fun vs e => by cases e; rfl⟩, rfl, rfl, na, rfl, bare2, raises_own T.exC T.tyC, q2⟩
  | .ok .next, z => exact z.elim
  | .ok .brk, z => exact z.elim
  | .ok .cont, z => exact z.elim
end
end L2

set_option Elab.async false
set_option linter.all false
set_option maxRecDepth 100000
set_option maxHeartbeats 4000000
/-! try: .. except A as e: .. except B as e: ..: several clauses, one name. -/
namespace L2
open PySem PySem.Spec PyProof.Rows
/-- behind a suite the name's slot is empty -/
def Ends.gone (D : Ends) (i : Nat) : Ends := { nx := fun σ H => D.nx (σ.set i none) H, rt := D.rt, bk := fun σ H => D.bk (σ.set i none) H, ct := fun σ H => D.ct (σ.set i none) H }
/-- what the clauses wish, one behind the other -/
def wEach (K : PySem.W.Frag) (i : Nat) (Wout : WX) (D : Ends) : List (Value × (Addr → Value → Option Addr → TS)) → WX
  | [] => Wout
  | (c, ts) :: more => fun cls d σ H => ∃ b, PySem.W.exmOne K cls c = some b ∧ (b = true → ∀ a, H a = none → ts a cls d (D.gone i) (σ.set i (some (.ref a))) H) ∧ (b = false → wEach K i Wout D more cls d σ H)
inductive Clauses (X : Cx) (n : Str) : List ExceptHandler → List (Value × (Addr → Value → Option Addr → TS)) → Prop
  | nil : Clauses X n [] []
  | cons {x : Str} {c : Value} {ts : Addr → Value → Option Addr → TS} {first : Stmt} {suite : List Stmt} {np hp : Pos} {more : List ExceptHandler} {l : List (Value × (Addr → Value → Option Addr → TS))} (hc : Names X x c)
      (hs : ∀ (a : Addr) (oe : Obj) (cls : Value) (d : Option Addr) (pn : List (Addr × Obj)), L2N.Zn cls d oe → (∃ vs, oe.data = .fields vs) → PSs (X.suite a ((a, oe) :: pn)) (first :: suite) (ts a cls d)) (r : Clauses X n more l) :
      Clauses X n (.ExceptHandler (some (.Name x np)) (some n) (first :: suite) hp :: more) ((c, ts) :: l)
section
variable {X : Cx} {n : Str} {i : Nat} {body : List Stmt} {h₁ : ExceptHandler} {hs₁ : List ExceptHandler} {l : List (Value × (Addr → Value → Option Addr → TS))} {pos : Pos} {tb : WX → TS} {Wout : WX}
theorem SP.untry {pins : List (Addr × Obj)} {xe : Value → Shared → Prop} {D : Ends} {f : Flow} {s : Shared} (ok : X.Ok) (h : SP (X.tr (X.pn ++ pins) xe) [] D f s) : SP X pins D f s :=
  match f, h with
  | .next, ⟨σ, H, J, q⟩ => ⟨σ, H, J.ofTry ok, q⟩
  | .brk, ⟨σ, H, J, q⟩ => ⟨σ, H, J.ofTry ok, q⟩
  | .cont, ⟨σ, H, J, q⟩ => ⟨σ, H, J.ofTry ok, q⟩
  | .ret _, ⟨v, σ, H, J, r, q⟩ => ⟨v, σ, H, J.ofTry ok, r, q⟩
theorem ps_try_each (st : X.stack = X.env :: X.outer) (fr : X.env.frame = some X.env.locals) (nd : X.N.Nodup) (hi : X.N[i]? = some n) (lo : X.env.kindOf n = some .local) (tk : L2N.Takes X Wout)
    (hb : ∀ (W : WX) (pn : List (Addr × Obj)) (xe : Value → Shared → Prop), L2N.Takes (X.tr pn xe) W → PassesOwn (model X.prog X.w) X.A X.env xe → PSs (X.tr pn xe) body (tb W))
    (hh : Clauses X n (h₁ :: hs₁) l) : PS X (.Try body (h₁ :: hs₁) [] [] pos) (fun D σ H => tb (wEach X.K i Wout D l) D σ H) := by
  refine ⟨fun pins s σ H D I h => ?_⟩
  have ok := I.ok
  have frs_ : X.A.frames = some (X.env :: X.outer) := by rw [ok.frames, st]
  refine wpAny_Try_except ?_
  refine wpAny_mono ((hb (wEach X.K i Wout D l) (X.pn ++ pins) (fun e sa => wpAny (model X.prog X.w) X.A (noteFrame e X.env) (fun _ sb => wpAny (model X.prog X.w) X.A (setFlight e none) (fun _ sc =>
    wpAny (model X.prog X.w) X.A (handleBy e X.env (h₁ :: hs₁)) (SP X pins D) X.xe sc) X.xe sb) X.xe sa) (fun u s2 hu => ?_) PassesOwn.looking).run [] s σ H D (I.toTry _) h) (fun f s2 hf => ?_) (fun _ _ z => z)
  · obtain ⟨a, B, sI, pins2, σ2, H2, cls, d, rfl, J0, nb, up, sky, na, os, ag, wish⟩ := hu
    have J : Inv X pins σ2 H2 sI := J0.ofTry ok
    show wpAny (model X.prog X.w) X.A (noteFrame (.ref a) X.env) _ _ _
    refine L2N.Sky.land L2N.Zn.steady frs_ fr (by rw [← st]; exact sky) fun h3 fl3 up3 => ?_
    have J3 : Inv X pins σ2 H2 { s2 with heap := h3 } := J.landed nb fl3.1 (up.trans up3) os ag
    obtain ⟨oe3, vs3, he3, hz3, hd3⟩ := fl3.there
    -- the error is no frame
    have out : a ∉ frs (X.env :: X.outer) := fun hm => by
      obtain ⟨_, o, ho, hnf⟩ := fl3.2.2.1.mem hm
      rw [he3] at ho
      cases ho
      exact hnf _ hd3
    have nL : a ≠ X.env.locals := fun z => out (List.mem_filterMap.mpr ⟨X.env, List.mem_cons_self, by rw [fr, z]⟩)
    have nF : a ∉ X.fs := fun hm => by
      obtain ⟨ev, he, q⟩ := List.mem_filterMap.mp hm
      exact out (List.mem_filterMap.mpr ⟨ev, List.mem_cons_of_mem _ he, q⟩)
    have S3 := J3.suite he3 hd3 na nL nF
    have go : ∀ {hs2 : List ExceptHandler} {l2 : List (Value × (Addr → Value → Option Addr → TS))}, Clauses X n hs2 l2 → wEach X.K i Wout D l2 cls d σ2 H2 →
        wpAny (model X.prog X.w) X.A (handleBy (.ref a) X.env hs2) (SP X pins D) X.xe { s2 with heap := h3 } := by
      intro hs2 l2 hk
      induction hk with
      | nil =>
        intro wish2
        refine wpAny_handleBy_nil ?_
        obtain ⟨_, _, _, oe, vs, T, oT, ts2, he, hz, hd, h1, _⟩ := id fl3
        unfold PySem.passOn
        refine wpAny_bind (wpAny_field he hd h1 ?_)
        rw [if_neg (show ¬ ((Value.ref T == Value.none) = true) from by simp)]
        have last : wpAny (model X.prog X.w) X.A (setFlight (.ref a) X.env.frame) (fun _ s5 => wpAny (model X.prog X.w) X.A (throw (.ref a) : Sem Flow) (SP X pins D) X.xe s5) X.xe { s2 with heap := h3 } := by
          rw [fr]
          exact HandSPX.setFlight_upZ fl3 fun h4 hh4 up4 => wpAny_throw (tk _ _ ⟨a, B, sI, pins, σ2, H2, cls, d, rfl, J, nb, (up.trans up3).trans up4, .inr (.inr (by rw [st]; exact hh4)), na, os, ag, wish2⟩)
        first
          | exact wpAny_bind (wpAny_pure (wpAny_bind last))
          | exact wpAny_bind last
      | @cons x c ts first suite np hp more l2 hc hsu r ih =>
        intro wish2
        obtain ⟨b, hb1, yes, no⟩ := wish2
        refine wpAny_handleBy_cons (codeAny_handlers_test ?_) (by intro q; cases q)
        have ty : PySem.W.Looks (model X.prog X.w) h3 (typeOf (.ref a)) cls := fun A Q E s k q => wpAny_typeOf_ref (k _ _ he3) (by rw [hz3.1]; exact q)
        have LM := PySem.W.exm_one (M := model X.prog X.w) J3.kIn ty hb1
        have test : ∀ {Q : Value → Shared → Prop} {E : Value → Shared → Prop}, Q c { s2 with heap := h3 } → wpAny (model X.prog X.w) (X.A.mark (some (.ref a))) (eval (.Name x np) X.env) Q E { s2 with heap := h3 } := fun {Q E} q =>
          match hc with
          | ⟨hg, hdbg, .inl hm⟩ => ld_glob (X := X.suite a ((a, oe3) :: (X.pn ++ pins))) S3 hg hm q hdbg
          | ⟨hg, hdbg, .inr ⟨hm, hv, hnn⟩⟩ => ld_blt (X := X.suite a ((a, oe3) :: (X.pn ++ pins))) S3 hg hm hv q hnn hdbg
        refine test (LM.here ?_)
        cases b with
        | false =>
          show wpAny _ X.A (handleBy (.ref a) X.env more) _ _ _
          exact ih (no rfl)
        | true =>
          refine codeAny_handlers_suite_as ?_
          refine HandSPX.lands_againZ fl3 fun h4 fl4 up4 => ?_
          have J4 : Inv X pins σ2 H2 { s2 with heap := h4 } := J.landed nb fl4.1 ((up.trans up3).trans up4) os ag
          obtain ⟨oe4, vs4, he4, hz4, hd4⟩ := fl4.there
          refine store_ok (X := X.suite a ((a, oe4) :: (X.pn ++ pins))) (v := .ref a) (J4.suite he4 hd4 na nL nF) nd hi (.inl lo) rfl (fun s5 S5 => ?_) (.inr lo)
          refine wpAny_mono ((hsu a oe4 cls d (X.pn ++ pins) hz4 ⟨_, hd4⟩).run [] s5 _ H2 _ S5 (yes rfl a na)) (fun f s6 hf => ?_) (fun _ _ z => z.elim)
          have fin : ∀ {σ6 : St} {H6 : Hp} {Q : Shared → Prop}, Inv (X.suite a ((a, oe4) :: (X.pn ++ pins))) [] σ6 H6 s6 → (∀ s7, Inv X pins (σ6.set i none) H6 s7 → Q s7) →
              wpAny (model X.prog X.w) X.A (do bindName X.env n .none; unbindBehindTheSuite X.env n hp) (fun _ s7 => Q s7) X.xe s6 := fun S6 hq => gone_ok (S6.unsuite ok) nd hi lo hq
          match f, hf with
          | .next, ⟨σ6, H6, S6, q6⟩ => exact fin S6 fun s7 J7 => ⟨_, _, J7, q6⟩
          | .brk, ⟨σ6, H6, S6, q6⟩ => exact fin S6 fun s7 J7 => ⟨_, _, J7, q6⟩
          | .cont, ⟨σ6, H6, S6, q6⟩ => exact fin S6 fun s7 J7 => ⟨_, _, J7, q6⟩
          | .ret u, ⟨v6, σ6, H6, S6, r6, q6⟩ => exact fin S6 fun s7 J7 => ⟨_, _, _, J7, r6, q6⟩
    exact go hh wish
  · have z := SP.untry ok hf
    cases f with
    | next => exact wpAny_execs_nil z
    | brk => exact z
    | cont => exact z
    | ret u => exact z
end
/-- what a class says, so that isinstance asks its instances rightly -/
structure AskC (K : PySem.W.Frag) (C : Addr) : Prop where
  cl : (PySem.W.clsIn K C).isSome = true
  ga : PySem.W.findIn K (.ref C) "__getattribute__" = some (some (.builtin "BaseException.__getattribute__"))
  gg : PySem.W.findIn K (.ref C) "__getattr__" = some none
  exC : PySem.W.subIn K (.ref C) (.type "BaseException") = some true
  cls : PySem.W.findIn K (.ref C) "__class__" = some (some (.builtin "object.__class__"))
  get : PySem.W.specialIn K (.builtin "object.__class__") "__get__" = some (some (.builtin "getset_descriptor.__get__"))
  tak : PySem.W.takesIn K (.builtin "object.__class__") = some true
  obj : PySem.W.mroIn K C (.type "object") = some true
/-- isinstance(e, c), e the error at a of the class cls -/
def rErrIs (K : PySem.W.Frag) (cls : Value) (a : Addr) (d : Option Addr) : List V → Hp → VK → Prop := fun xs H Q => ∃ (C : Addr) (c : V) (cv : Value) (b : Bool), cls = .ref C ∧ AskC K C ∧ xs = [.ref a, c] ∧ ClsV c cv ∧ (∀ dd, d = some dd → ∃ fs, H dd = some (.xd fs)) ∧ PySem.W.kitOne K cls cv = some b ∧ Q (.bl b) H
/-- isinstance(e, (c, ..)) -/
def rErrIsT (K : PySem.W.Frag) (cls : Value) (a : Addr) (d : Option Addr) : List V → Hp → VK → Prop := fun xs H Q => ∃ (C tp : Addr) (cs : List V) (us : List Value) (b : Bool), cls = .ref C ∧ AskC K C ∧ xs = [.ref a, .ref tp] ∧ H tp = some (.tup cs) ∧ Paired ClsV cs us ∧ (∀ dd, d = some dd → ∃ fs, H dd = some (.xd fs)) ∧ PySem.W.kitAny K cls us = some b ∧ Q (.bl b) H
section
variable {X : Cx} {a C : Addr} {cls : Value} {oe : Obj} {d : Option Addr} {pn : List (Addr × Obj)}
theorem err_inst {pins : List (Addr × Obj)} {σ : St} {H : Hp} {s : Shared} (I : Inv (X.suite a ((a, oe) :: pn)) pins σ H s) (hz : Zc (.ref C) d oe) (hf : ∃ vs, oe.data = .fields vs) (hd : ∀ dd, d = some dd → ∃ fs, H dd = some (.xd fs)) : ∃ od, PySem.W.InstAt s.heap a oe C od := by
  obtain ⟨hget, _⟩ := I.pin (a, oe) (List.mem_append_left _ List.mem_cons_self)
  obtain ⟨vs, hv⟩ := hf
  have nc : PySem.W.notCls oe = true := by unfold PySem.W.notCls; rw [hv] <;> rfl
  cases d with
  | none => exact ⟨none, hget, hz.1, nc, by rw [hz.2]; trivial⟩
  | some dd =>
    obtain ⟨fs, e⟩ := hd dd rfl
    obtain ⟨mA, ⟨o, _, _, ho, _⟩, _⟩ := (show ObjOk X.prog X.w H s.heap dd (.xd fs) from I.hok dd _ e)
    exact ⟨some o, hget, hz.1, nc, by rw [hz.2]; exact ho⟩
theorem call_errIs (hz : Zc cls d oe) (hf : ∃ vs, oe.data = .fields vs) : CallR (X.suite a ((a, oe) :: pn)) (.builtin "isinstance") (rErrIs X.K cls a d) := by
  intro pins s σ H xs us Q I r h
  obtain ⟨C, c, cv, b, rfl, T, rfl, hc, hd, e, q⟩ := h
  obtain ⟨u1, u2, rfl, r1, r2⟩ := vals2 r
  cases (show u1 = Value.ref a from r1)
  cases hc.eq r2
  obtain ⟨od, J⟩ := err_inst I hz hf hd
  exact PySem.W.kia_one (PySem.W.kitx_exc T.cl T.ga T.gg T.exC T.cls T.get T.tak T.obj) I.kIn J e (fun z => nomatch z) fun tk => ⟨.bl b, H, I.tok tk, rfl, q⟩
theorem call_errIsT (hz : Zc cls d oe) (hf : ∃ vs, oe.data = .fields vs) : CallR (X.suite a ((a, oe) :: pn)) (.builtin "isinstance") (rErrIsT X.K cls a d) := by
  intro pins s σ H xs us Q I r h
  obtain ⟨C, tp, cs, ws, b, rfl, T, rfl, hT, k, hd, e, q⟩ := h
  obtain ⟨u1, u2, rfl, r1, r2⟩ := vals2 r
  cases (show u1 = Value.ref a from r1)
  cases (show u2 = Value.ref tp from r2)
  obtain ⟨od, J⟩ := err_inst I hz hf hd
  obtain ⟨_, its, rv, o, h1, h2, m, h3⟩ := (show ObjOk X.prog X.w H s.heap tp (.tup cs) from I.hok tp _ hT)
  cases ClsV.all k rv
  obtain ⟨oc, od2, dt, sl⟩ := o
  simp only at h2 h3
  subst h2 h3
  exact PySem.W.kia_tup (PySem.W.kitx_exc T.cl T.ga T.gg T.exC T.cls T.get T.tak T.obj) I.kIn J h1 e (fun z => nomatch z) fun tk => ⟨.bl b, H, I.tok tk, rfl, q⟩
end
end L2

set_option Elab.async false
set_option linter.all false
set_option maxRecDepth 100000
set_option maxHeartbeats 4000000
/-! What repr tells of small data, wherever it is asked: some text of a bounded length. -/
namespace PySem
namespace Shown
open PySem.Spec PyProof.Rows Builtin Builtin.List
/-- x shows as some text of at most n signs, as long as the objects of h₀ stand -/
def Some_ (prog : Program) (w : World) (h₀ : Heap) (x : Value) (n : Nat) : Prop :=
  ∀ (base : Nat), base + n + 2 ≤ sizeLine → ∀ (A : Around) (E : Value → Shared → Prop) (s : Shared) (Q : Str → Shared → Prop), A.units + 8 < cLine → (∀ b o, h₀.get? b = some o → s.heap.get? b = some o) →
    (∀ (tk : Nat) (t : Str), t.length ≤ n → Q t { s with toks := tk }) → wpAny (model prog w) A (pyReprUnder base x) Q E s
theorem list_len : ∀ ts : List Str, (listText ts).length ≤ piled ts + 2
  | [] => by decide +kernel
  | t :: r => by
    have h := textFrom_length_pos r 1 (("[" : Str) ++ (if (0 : Nat) > 0 then ", " else "" : String) ++ t) (Nat.succ_pos 0)
    have e : ((("[" : Str) ++ (if (0 : Nat) > 0 then ", " else "" : String) ++ t)).length = 1 + t.length := by
      rw [strLen_append, strLen_append]
      rfl
    have z : (listText (t :: r)).length = (textFrom 1 (("[" : Str) ++ (if (0 : Nat) > 0 then ", " else "" : String) ++ t) r).length + 1 := by
      show (textFrom 1 _ r ++ "]").length = _
      rw [strLen_append]
      rfl
    rw [z, h, e, piled_cons]
    omega
theorem piled_most {n : Nat} : ∀ ts : List Str, (∀ t ∈ ts, t.length ≤ n) → piled ts ≤ ts.length * (n + 2)
  | [], _ => Nat.zero_le _
  | t :: r, h => by
    have h1 := h t List.mem_cons_self
    have h2 := piled_most r fun u hu => h u (List.mem_cons_of_mem _ hu)
    rw [piled_cons, List.length_cons, Nat.succ_mul]
    omega
section
variable {prog : Program} {w : World} {h₀ : Heap}
theorem flat {x : Value} {t : Str} {n : Nat} (h : ReprIs prog w x t) (hn : t.length ≤ n) : Some_ prog w h₀ x n := fun base hb A E s Q _ _ go => h base (by omega) A E s Q fun tk => go tk t hn
theorem more {x : Value} {n m : Nat} (h : Some_ prog w h₀ x n) (hn : n ≤ m) : Some_ prog w h₀ x m := fun base hb A E s Q hu hk go => h base (by omega) A E s Q hu hk fun tk t ht => go tk t (Nat.le_trans ht hn)
/-- tuple.__repr__'s tree, whatever is under way -/
theorem tuple_tree {A : Around} {E : Value → Shared → Prop} {s : Shared} {a : Addr} {o : Obj} {items : Array Value} {m base : Nat} {ts : List Str} {Q : Fin → Shared → Prop} (ha : s.heap.get? a = some o) (hd : o.data = .seq items m) (hT : ReprAll prog w items.toList ts)
    (hz : base + (tupleText ts).length ≤ sizeLine) (go : ∀ (t : Str) (u : Tok) (tk : Nat), t.length ≤ (tupleText ts).length + 5 → Q (.done (.ret (.str t u))) { s with toks := tk }) : wpAny (model prog w) A (Builtin.tupleReprAt base ⟨[.ref a], []⟩) Q E s := by
  rw [tuple_repr_tree]
  refine wpAny_bind (fmt_underWay fun b => ?_)
  cases b with
  | true =>
    refine PySem.W.KFB.if_so rfl (wpAny_bind (wpAny_rule (wpAny_bind (wpAny_mkStr (wpAny_pure ?_) (by decide +kernel)))))
    exact go "(...)" _ _ (Nat.le_trans fmt_way (Nat.le_add_left _ _))
  | false =>
    refine PySem.W.KFB.if_not rfl ?_
    exact wpAny_tupleReprRest ha hd hT (fun u tk => go (tupleText ts) u tk (Nat.le_add_right _ _)) hz
theorem tuple {a : Addr} {o : Obj} {items : Array Value} {m n : Nat} {ts : List Str} (ha : h₀.get? a = some o) (hc : o.cls = .type "tuple") (hd : o.data = .seq items m) (hT : ReprAll prog w items.toList ts) (hn : (tupleText ts).length + 5 ≤ n) :
    Some_ prog w h₀ (.ref a) n := by
  intro base hb A E s Q hu hk go
  refine wpAny_pyReprUnder_ref (by omega) (wpAny_pyReprObjUnder_twin (twin := "tuple.__repr__.under") ⟨o, hk _ _ ha, hc⟩ F.slot_tuple_repr rfl (by omega) ?_)
  refine call_twin_own (F.quiet_tuple_repr_under _) F.entry_tuple_repr_under F.check_tuple_repr_under ⟨o, hk _ _ ha, hc⟩ F.slot_tuple_repr (F.args_tuple_repr_1 _) (wpOwn_of_wpAny ?_)
  refine tuple_tree (hk _ _ ha) hd hT (by omega) fun t u tk ht => ?_
  exact ⟨⟨_, _, rfl⟩, _, _, rfl, go tk t (by omega)⟩
theorem run_loop {a P : Addr} (hne : a ≠ P) {items : Array Value} {n base : Nat} (hT : ∀ x ∈ items.toList, Some_ prog w h₀ x n) (hP0 : h₀.get? P = none) (hz : base + items.size * (n + 2) + n + 10 ≤ sizeLine) {A : Around} {R : Result → Shared → Prop} (hu : A.units + 10 < cLine) :
    ∀ (k i : Nat) (s : Shared) (oa : Obj) (na : Nat) (acc : Array Value) (c : Nat) (done : List (Str × Tok)), items.size - i = k → i ≤ items.size → (∀ b o, h₀.get? b = some o → s.heap.get? b = some o) → s.heap.get? a = some oa → oa.data = .seq items na →
    s.heap.get? P = some { cls := .type "list", dict := none, data := .seq acc c, slots := #[] } → acc.toList = strValues done → done.length = i → (∀ t ∈ done.map (·.1), t.length ≤ n) →
    (∀ h' (t : Str) (u : Tok) (tk : Nat), t.length ≤ items.size * (n + 2) + 2 → (∀ b o, b ≠ P → s.heap.get? b = some o → h'.get? b = some o) → R (.ok (.ret (.str t u))) { s with heap := h', toks := tk }) →
    codeAny (model prog w) A (.builtin "list.__repr__.loop" ⟨[.ref a, rawInt i, .ref P, rawInt ((base + piled (done.map (·.1)) : Nat) : Int)], []⟩) R s := by
  intro k
  induction k with
  | zero =>
    intro i s oa na acc c done hk hi hk0 ha hda hP hacc hdone hts go
    have hin : i = items.size := by omega
    have hp := piled_most (n := n) (done.map (·.1)) hts
    rw [List.length_map, hdone] at hp
    have hl := list_len (done.map (·.1))
    rw [hin] at hp
    refine codeAny_builtin F.entry_list_repr_loop ?_
    show wpAny _ _ («list.__repr__.loop» ⟨[.ref a, .int i 0, .ref P, .int _ 0], []⟩) _ _ s
    rw [repr_loop_tree]
    refine wpAny_bind (wpAny_listItems ha hda ?_)
    have hno : items[(i : Int).toNat]? = none := by simp [hin]
    simp only [hno]
    unfold reprEnd
    refine wpAny_bind (wpAny_listItems hP rfl ?_)
    rw [hacc, repr_fold]
    refine wpAny_bind (wpAny_pure (wpAny_bind (wpAny_mkStr (wpAny_pure ?_) ?_)))
    · exact go s.heap (listText (done.map (·.1))) _ _ (by omega) (fun _ _ _ e => e)
    · show (listText (done.map (·.1))).length ≤ sizeLine
      omega
  | succ k ih =>
    intro i s oa na acc c done hk hi hk0 ha hda hP hacc hdone hts go
    have hlt : i < items.size := by omega
    have hp := piled_most (n := n) (done.map (·.1)) hts
    rw [List.length_map, hdone] at hp
    have hmul : i * (n + 2) + (n + 2) ≤ items.size * (n + 2) := by
      rw [← Nat.succ_mul]
      exact Nat.mul_le_mul_right _ hlt
    have hsz : acc.size ≤ sizeLine := by
      have e1 : acc.toList.length = acc.size := by simp
      have e2 : (strValues done).length = done.length := by simp [strValues]
      have e3 : i ≤ i * (n + 2) := Nat.le_mul_of_pos_right _ (by omega)
      rw [hacc] at e1
      omega
    refine codeAny_builtin F.entry_list_repr_loop ?_
    show wpAny _ _ («list.__repr__.loop» ⟨[.ref a, .int i 0, .ref P, .int ((base + piled (done.map (·.1)) : Nat) : Int) 0], []⟩) _ _ s
    rw [repr_loop_tree]
    refine wpAny_bind (wpAny_listItems ha hda ?_)
    have hso : items[(i : Int).toNat]? = some items[i] := by simp [hlt]
    simp only [hso]
    rw [Int.toNat_natCast]
    refine wpAny_bind (wpAny_holding (hT items[i] (by simp) (base + piled (done.map (·.1)) + 1) (by omega) _ _ _ _ (by rw [units_under_list_loop]; omega) hk0 fun tk t ht => ?_))
    refine wpAny_bind (wpAny_mkStr ?_ (by omega))
    refine wpAny_bind ?_
    show wpAny _ _ (updateSeq P _) _ _ _
    refine wpAny_updateSeq hP rfl (wpAny_pure ⟨F.quiet_list_repr_loop _, ?_⟩) hsz
    have e1 : ((i : Int) + 1) = ((i + 1 : Nat) : Int) := by omega
    have e2 : base + piled (done.map (·.1)) + (t.length + 2) = base + piled ((done ++ [(t, tk)]).map (·.1)) := by
      rw [List.map_append, piled_append]
      show _ = base + (piled (done.map (·.1)) + piled [t])
      rw [piled_cons, piled_nil]
      omega
    rw [e1, e2]
    refine ih (i + 1) _ oa na (acc.push (.str t tk)) _ (done ++ [(t, tk)]) (by omega) hlt (fun b o e => (Heap.get?_update_other _ _ (fun z : P = b => by rw [← z, hP0] at e; cases e)).trans (hk0 _ _ e)) ((Heap.get?_update_other _ _ (fun z : P = a => hne z.symm)).trans ha) hda
      (Heap.get?_update_self _ hP rfl) (by simp [hacc, strValues]) (by simp [hdone]) (fun u hu => ?_) fun h' t' u tk' ht' hh => ?_
    · rw [List.map_append] at hu
      rcases List.mem_append.mp hu with hu | hu
      · exact hts u hu
      · rw [List.mem_singleton.mp hu]
        exact ht
    · exact go h' t' u tk' ht' fun b o hb e => hh b o hb ((Heap.get?_update_other _ _ (fun z : P = b => hb z.symm)).trans e)
/-- list.__repr__, whatever is under way: some text -/
theorem call_list {a : Addr} {o : Obj} {items : Array Value} {m n : Nat} {A : Around} {E : Value → Shared → Prop} {s : Shared} {Q : Value → Shared → Prop} (ha : s.heap.get? a = some o) (hc : o.cls = .type "list") (hd : o.data = .seq items m) (hT : ∀ x ∈ items.toList, Some_ prog w s.heap x n) (hu : A.units + 12 < cLine)
    (hz : items.size * (n + 2) + n + 10 ≤ sizeLine) (go : ∀ h' (t : Str) (u : Tok) (tk : Nat), t.length ≤ items.size * (n + 2) + 5 → (∀ b o, s.heap.get? b = some o → h'.get? b = some o) → Q (.str t u) { s with heap := h', toks := tk }) :
    wpAny (model prog w) A (call (.builtin "list.__repr__") [.ref a]) Q E s := by
  refine wpAny_call (codeAny_call_builtin F.slot_list_repr.plain F.entry_list_repr (F.slot_list_repr.check _ _ _ _ _ _ _ _ ⟨o, ha, hc⟩ (F.args_list_repr_1 _) ?_))
  show wpAny _ _ (Builtin.listReprAt 0 ⟨[.ref a], []⟩) _ _ s
  obtain ⟨l⟩ := items
  cases l with
  | nil => exact wpAny_list_repr_empty ha hd (go s.heap "[]" _ _ (Nat.le_trans (by decide +kernel : ("[]" : Str).length ≤ 5) (Nat.le_add_left _ _)) fun _ _ e => e)
  | cons x l =>
    unfold Builtin.listReprAt
    refine wpAny_bind (wpAny_of_eq (a := ((Value.ref a : Value), ([] : List Value))) (by first | rfl | (simp only [slotArgs]; rfl)) ?_)
    refine wpAny_bind (wpAny_listItems ha hd ?_)
    refine PySem.W.KFB.if_not (by simp) ?_
    refine wpAny_bind (wpAny_stack_any fun st => ?_)
    dsimp only
    split
    · refine wpAny_bind (wpAny_rule (wpAny_bind (wpAny_mkStr (wpAny_pure ?_) (by decide +kernel))))
      exact go s.heap "[...]" _ _ (Nat.le_trans (by decide +kernel : ("[...]" : Str).length ≤ 5) (Nat.le_add_left _ _)) fun _ _ e => e
    · refine wpAny_bind (m := newList []) (wpAny_newObj_type ?_)
      refine wpAny_pure ⟨F.quiet_list_repr_loop _, ?_⟩
      have new : s.heap.get? s.heap.objs.size = none := by
        cases e : s.heap.get? s.heap.objs.size with
        | none => rfl
        | some o => exact absurd (Heap.lt_size e) (Nat.lt_irrefl _)
      refine run_loop (h₀ := s.heap) (P := s.heap.objs.size) (Nat.ne_of_lt (Heap.lt_size ha)) (base := 0) hT new (by omega) (by omega) _ 0 _ o m #[] _ [] rfl (Nat.zero_le _) (fun b o e => Heap.get?_push_of_some _ e) (Heap.get?_push_of_some _ ha) hd (Heap.get?_push_size _ rfl) rfl rfl
        (fun t ht => by cases ht) fun h' t u tk ht hh => ?_
      exact go h' t u tk (by omega) fun b o e => hh b o (Nat.ne_of_lt (Heap.lt_size e)) (Heap.get?_push_of_some _ e)
end
end Shown
end PySem
namespace L2
open PySem PySem.Spec PyProof.Rows
inductive FlatV : V → Prop
  | non : FlatV .non
  | bl (b : Bool) : FlatV (.bl b)
  | int (i : Int) (h : i.natAbs.log2 < 1920) : FlatV (.int i)
  | str (y : Str) (h : (reprText y).length ≤ 2000) : FlatV (.str y)
inductive SmallV (H : Hp) : V → Prop
  | flat {x : V} (h : FlatV x) : SmallV H x
  | tup {a : Addr} {xs : List V} (e : H a = some (.tup xs)) (h : ∀ x ∈ xs, FlatV x) (l : xs.length ≤ 8) : SmallV H (.ref a)
inductive ShownV (H : Hp) : V → Prop
  | small {x : V} (h : SmallV H x) : ShownV H x
  | lst {a : Addr} {xs : List V} (e : H a = some (.lst xs)) (h : ∀ x ∈ xs, SmallV H x) (l : xs.length ≤ 8) : ShownV H (.ref a)
theorem FlatV.is {P : Program} {w : World} {x : V} {u : Value} (h : FlatV x) (r : RelV x u) : ∃ t : Str, ReprIs P w u t ∧ t.length ≤ 2000 := by
  cases h with
  | non => cases (show u = Value.none from r); exact ⟨_, ReprIs.none, by decide +kernel⟩
  | bl b => cases (show u = Value.bool b from r); exact ⟨_, ReprIs.bool b, by cases b <;> decide +kernel⟩
  | int i h =>
    obtain ⟨t, q⟩ := (show ∃ t, u = Value.int i t from r)
    cases q
    exact ⟨_, ReprIs.int t h, Nat.le_trans (PyProof.Rows.int_text_len_1921 h) (by decide)⟩
  | str y h =>
    obtain ⟨t, q⟩ := (show ∃ t, u = Value.str y t from r)
    cases q
    exact ⟨_, ReprIs.str y t (by rw [sizeLine_eq]; omega), h⟩
theorem flats {P : Program} {w : World} : ∀ {xs : List V} {us : List Value}, Vals xs us → (∀ x ∈ xs, FlatV x) → ∃ ts : List Str, ReprAll P w us ts ∧ ts.length = xs.length ∧ ∀ t ∈ ts, t.length ≤ 2000
  | _, _, .nil, _ => ⟨[], .nil, rfl, fun _ h => nomatch h⟩
  | _, _, .cons r rr, h => by
    obtain ⟨t, ht, hl⟩ := (h _ List.mem_cons_self).is (P := P) (w := w) r
    obtain ⟨ts, hts, e, hls⟩ := flats (P := P) (w := w) rr fun x hx => h x (List.mem_cons_of_mem _ hx)
    exact ⟨t :: ts, .cons ht hts, congrArg (· + 1) e, fun u hu => (List.mem_cons.mp hu).elim (fun z => z ▸ hl) (hls u)⟩
theorem tuple_len {ts : List Str} (h : ∀ t ∈ ts, t.length ≤ 2000) (hl : ts.length ≤ 8) : (tupleText ts).length ≤ 17000 := by
  have a := fmt_text ts
  have b := PySem.Shown.piled_most (n := 2000) ts h
  have c : ts.length * 2002 ≤ 8 * 2002 := Nat.mul_le_mul_right _ hl
  omega
section
variable {X : Cx}
theorem SmallV.some {pins : List (Addr × Obj)} {σ : St} {H : Hp} {s : Shared} {x : V} {u : Value} (I : Inv X pins σ H s) (h : SmallV H x) (r : RelV x u) : PySem.Shown.Some_ X.prog X.w s.heap u 17005 := by
  cases h with
  | flat h =>
    obtain ⟨t, ht, hl⟩ := h.is (P := X.prog) (w := X.w) r
    exact PySem.Shown.flat ht (by omega)
  | @tup a xs e h l =>
    cases (show u = Value.ref a from r)
    obtain ⟨_, its, rv, o, h1, h2, n, h3⟩ := (show ObjOk X.prog X.w H s.heap a (.tup xs) from I.hok a _ e)
    obtain ⟨ts, hts, e2, hls⟩ := flats (P := X.prog) (w := X.w) rv h
    exact PySem.Shown.tuple h1 h2 h3 (by simpa using hts) (Nat.add_le_add_right (tuple_len hls (e2 ▸ l)) 5)
/-- {x!r}: some text -/
def tShown (te : TE) : TE := fun σ H Q => te σ H fun x H1 => ShownV H1 x ∧ ∀ m : Str, m.length ≤ 200000 → Q (.str m) H1
theorem small_shown {pins : List (Addr × Obj)} {σ : St} {H : Hp} {s : Shared} {x : V} {u : Value} {E : Value → Shared → Prop} {Q : Value → Shared → Prop} (I : Inv X pins σ H s) (hu : X.A.units + 16 < cLine) (h : ShownV H x) (r : RelV x u)
    (go : ∀ (m : Str) (t : Tok) s2, m.length ≤ 200000 → Inv X pins σ H s2 → Q (.str m t) s2) : wpAny (model X.prog X.w) X.A (pyReprObj u) Q E s := by
  cases h with
  | small h =>
    cases h with
    | flat h =>
      cases h with
      | non => cases (show u = Value.none from r); exact pyReprObj_none (go _ _ _ (by decide +kernel) (I.tok _))
      | bl b => cases (show u = Value.bool b from r); exact pyReprObj_bool (go _ _ _ (by cases b <;> decide +kernel) (I.tok _))
      | int i h =>
        obtain ⟨t, q⟩ := (show ∃ t, u = Value.int i t from r)
        cases q
        exact pyReprObj_int h (go _ _ _ (Nat.le_trans (PyProof.Rows.int_text_len_1921 h) (by decide)) (I.tok _))
      | str y h =>
        obtain ⟨t, q⟩ := (show ∃ t, u = Value.str y t from r)
        cases q
        exact pyReprObj_str (go _ _ _ (by omega) (I.tok _)) (by rw [sizeLine_eq]; omega)
    | @tup a xs e h l =>
      cases (show u = Value.ref a from r)
      obtain ⟨_, its, rv, o, h1, h2, n, h3⟩ := (show ObjOk X.prog X.w H s.heap a (.tup xs) from I.hok a _ e)
      obtain ⟨ts, hts, e2, hls⟩ := flats (P := X.prog) (w := X.w) rv h
      have hl := tuple_len hls (e2 ▸ l)
      refine wpAny_pyReprObj_slot (by omega) ⟨o, h1, h2⟩ F.slot_tuple_repr (fmt_tuple_repr h1 h2 h3 (by simpa using hts) (by rw [sizeLine_eq]; omega) fun m t tk hm => ⟨m, t, rfl, go m t _ (by omega) (I.tok _)⟩)
  | @lst a xs e h l =>
    cases (show u = Value.ref a from r)
    obtain ⟨_, its, n, rv, h1⟩ := (show ObjOk X.prog X.w H s.heap a (.lst xs) from I.hok a _ e)
    have len := rv.length
    have all : ∀ v ∈ its.toArray.toList, PySem.Shown.Some_ X.prog X.w s.heap v 17005 := by
      intro v hv
      obtain ⟨j, hj⟩ := List.getElem?_of_mem (show v ∈ its by simpa using hv)
      obtain ⟨hj1, _⟩ := List.getElem?_eq_some_iff.mp hj
      have hx : xs[j]? = some xs[j] := by simp [len ▸ hj1]
      obtain ⟨u2, e2, r2⟩ := rv.get hx
      rw [e2] at hj
      cases hj
      exact (h _ (List.getElem_mem _)).some I r2
    have sz : its.toArray.size ≤ 8 := by simpa [← len] using l
    have mul : its.toArray.size * 17007 ≤ 8 * 17007 := Nat.mul_le_mul_right _ sz
    refine wpAny_pyReprObj_slot (by omega) ⟨_, h1, rfl⟩ F.slot_list_repr.toG (PySem.Shown.call_list (n := 17005) h1 rfl rfl all (by omega) (by rw [sizeLine_eq]; omega) fun h' t u tk ht hk => ⟨t, u, rfl, ?_⟩)
    exact go t u _ (by omega) (I.kept (t' := tk) fun _ _ z => hk _ _ z)
theorem pe_shown {e : Expr} {te : TE} {pos : Pos} {k : Nat} (hr : Room k X.A) (he : PE X e te) : PE X (.FormattedValue e 114 none pos) (tShown te) := by
  refine ⟨fun pins s σ H Q I h => ?_⟩
  refine wpAny_FormattedValue_repr (thn (he.run pins s σ H _ I h) fun u s1 hv => ?_)
  obtain ⟨x, H1, I1, r1, sh, q⟩ := hv
  have hu := hr.un
  refine small_shown I1 (by omega) sh r1 fun m t s2 hm J => ?_
  exact wpAny_formatField_str ⟨.str m, H1, J, ⟨_, rfl⟩, q m hm⟩ ⟨.str m, H1, J.tok _, ⟨_, rfl⟩, q m hm⟩ (by rw [sizeLine_eq]; omega)
end
end L2

set_option Elab.async false
set_option linter.all false
set_option maxRecDepth 100000
set_option maxHeartbeats 4000000
/-! The ten errors' own __init__s. -/
namespace K0E
open PySem L2
def top (i : Nat) : Stmt := PySem.Challenge.pw_figurehold_k00_errors.main.body.getD i (.Pass ⟨0, 0, 0, 0⟩)
/-- what may be told in a message -/
inductive Told (H : Hp) : V → Prop
  | num (i : Int) (h : i.natAbs.log2 < 1920) : Told H (.int i)
  | txt (y : Str) (h : y.length ≤ 1000) : Told H (.str y)
/-- __init__(self, f) of an error of the class at C -/
def spIni (K : PySem.W.Frag) (C : Addr) (f : Str) (Ok : Hp → V → Prop) : Sp := fun vs H Q _ => ∃ (a : Addr) (y : V), vs = [.ref a, y] ∧ ErrC K C ∧ PySem.W.findIn K (.ref C) f = some none ∧ H a = some (exo a C none) ∧ Ok H y ∧
  ∀ dx, H dx = none → dx ≠ a → Q .non (upd (upd H dx (exd dx [(f, y)])) a (exo a C (some dx)))
theorem fits {a b : Str} (h1 : a.length ≤ 1000) (h2 : b.length ≤ 300000) : (a ++ b).length ≤ sizeLine := by
  rw [strLen_append, sizeLine_eq]
  omega
theorem fits2 {a b c : Str} (h1 : a.length ≤ 1000) (h2 : b.length ≤ 300000) (h3 : c.length ≤ 1000) : (a ++ b ++ c).length ≤ sizeLine := by
  rw [strLen_append, strLen_append, sizeLine_eq]
  omega
structure ErrTxt (K : PySem.W.Frag) (mg : Str → Option Value) (B : Addr) : Prop where
  base : BaseC K B
  gB : mg "FigureError" = some (.ref B)
section
variable {P : Program} {w : World} {K : PySem.W.Frag} {mg : Str → Option Value} {base : Heap} {B : Addr}
abbrev sBadValue : Stmt := inClass (top 2) 0
theorem scBadValue : FnScope ["self", "at"] ["self", "at"] (defScope sBadValue) := ⟨rfl, rfl, rfl, by decide +kernel, rfl, by decide +kernel, by decide +kernel⟩
theorem iniBadValue {f C : Addr} {fd : FuncData} (F : Fun K "__init__" "BadValue.__init__" sBadValue f fd) (T : ErrTxt K mg B) : FnOk P w K mg base CX0 1 f fd ["self", "at"] (spIni K C "at" Told) := by
  refine F.ok scBadValue (fun vs H Q E h => ?_) (fun cdv A outer s H vs Q E hr h => ?_)
  · obtain ⟨a, y, rfl, _⟩ := h
    rfl
  · obtain ⟨a, y, rfl, TC, no, ha, hy, go⟩ := h
    refine ⟨_, pss_cons (ps_expr (pe_base T.base rfl T.gB (pa_cons (pv 0) (pa_cons (pe_joined (.cons pe_str (.cons (pe_fmt (pv 1)) (.cons pe_str .nil)))) pa_nil)))) (pss_one (ps_field (pv 0) (pv 1))), ?_⟩
    refine ⟨_, rfl, _, rfl, by decide +kernel, _, rfl, ?_⟩
    cases hy with
    | num i h => exact .inr ⟨i, rfl, h, _, rfl, fits (by decide +kernel) (Nat.le_trans (PyProof.Rows.int_text_len_1921 h) (by decide)), _, rfl, fits2 (by decide +kernel) (Nat.le_trans (PyProof.Rows.int_text_len_1921 h) (by decide)) (by decide +kernel), a, C, _, rfl, by show 1 ≤ 1000; decide, TC, ha, _, rfl, _, rfl, a, C, rfl, TC, no, ha, fun dx n ne => go dx n ne⟩
    | txt y h => exact .inl ⟨y, rfl, by rw [sizeLine_eq]; omega, _, rfl, fits (by decide +kernel) (Nat.le_trans h (by decide)), _, rfl, fits2 (by decide +kernel) (Nat.le_trans h (by decide)) (by decide +kernel), a, C, _, rfl, by show 1 ≤ 1000; decide, TC, ha, _, rfl, _, rfl, a, C, rfl, TC, no, ha, fun dx n ne => go dx n ne⟩
abbrev sBadStep : Stmt := inClass (top 3) 0
theorem scBadStep : FnScope ["self", "at"] ["self", "at"] (defScope sBadStep) := ⟨rfl, rfl, rfl, by decide +kernel, rfl, by decide +kernel, by decide +kernel⟩
theorem iniBadStep {f C : Addr} {fd : FuncData} (F : Fun K "__init__" "BadStep.__init__" sBadStep f fd) (T : ErrTxt K mg B) : FnOk P w K mg base CX0 1 f fd ["self", "at"] (spIni K C "at" Told) := by
  refine F.ok scBadStep (fun vs H Q E h => ?_) (fun cdv A outer s H vs Q E hr h => ?_)
  · obtain ⟨a, y, rfl, _⟩ := h
    rfl
  · obtain ⟨a, y, rfl, TC, no, ha, hy, go⟩ := h
    refine ⟨_, pss_cons (ps_expr (pe_base T.base rfl T.gB (pa_cons (pv 0) (pa_cons (pe_joined (.cons pe_str (.cons (pe_fmt (pv 1)) (.cons pe_str .nil)))) pa_nil)))) (pss_one (ps_field (pv 0) (pv 1))), ?_⟩
    refine ⟨_, rfl, _, rfl, by decide +kernel, _, rfl, ?_⟩
    cases hy with
    | num i h => exact .inr ⟨i, rfl, h, _, rfl, fits (by decide +kernel) (Nat.le_trans (PyProof.Rows.int_text_len_1921 h) (by decide)), _, rfl, fits2 (by decide +kernel) (Nat.le_trans (PyProof.Rows.int_text_len_1921 h) (by decide)) (by decide +kernel), a, C, _, rfl, by show 1 ≤ 1000; decide, TC, ha, _, rfl, _, rfl, a, C, rfl, TC, no, ha, fun dx n ne => go dx n ne⟩
    | txt y h => exact .inl ⟨y, rfl, by rw [sizeLine_eq]; omega, _, rfl, fits (by decide +kernel) (Nat.le_trans h (by decide)), _, rfl, fits2 (by decide +kernel) (Nat.le_trans h (by decide)) (by decide +kernel), a, C, _, rfl, by show 1 ≤ 1000; decide, TC, ha, _, rfl, _, rfl, a, C, rfl, TC, no, ha, fun dx n ne => go dx n ne⟩
abbrev sBadClaim : Stmt := inClass (top 4) 0
theorem scBadClaim : FnScope ["self", "at"] ["self", "at"] (defScope sBadClaim) := ⟨rfl, rfl, rfl, by decide +kernel, rfl, by decide +kernel, by decide +kernel⟩
theorem iniBadClaim {f C : Addr} {fd : FuncData} (F : Fun K "__init__" "BadClaim.__init__" sBadClaim f fd) (T : ErrTxt K mg B) : FnOk P w K mg base CX0 1 f fd ["self", "at"] (spIni K C "at" Told) := by
  refine F.ok scBadClaim (fun vs H Q E h => ?_) (fun cdv A outer s H vs Q E hr h => ?_)
  · obtain ⟨a, y, rfl, _⟩ := h
    rfl
  · obtain ⟨a, y, rfl, TC, no, ha, hy, go⟩ := h
    refine ⟨_, pss_cons (ps_expr (pe_base T.base rfl T.gB (pa_cons (pv 0) (pa_cons (pe_joined (.cons pe_str (.cons (pe_fmt (pv 1)) (.cons pe_str .nil)))) pa_nil)))) (pss_one (ps_field (pv 0) (pv 1))), ?_⟩
    refine ⟨_, rfl, _, rfl, by decide +kernel, _, rfl, ?_⟩
    cases hy with
    | num i h => exact .inr ⟨i, rfl, h, _, rfl, fits (by decide +kernel) (Nat.le_trans (PyProof.Rows.int_text_len_1921 h) (by decide)), _, rfl, fits2 (by decide +kernel) (Nat.le_trans (PyProof.Rows.int_text_len_1921 h) (by decide)) (by decide +kernel), a, C, _, rfl, by show 1 ≤ 1000; decide, TC, ha, _, rfl, _, rfl, a, C, rfl, TC, no, ha, fun dx n ne => go dx n ne⟩
    | txt y h => exact .inl ⟨y, rfl, by rw [sizeLine_eq]; omega, _, rfl, fits (by decide +kernel) (Nat.le_trans h (by decide)), _, rfl, fits2 (by decide +kernel) (Nat.le_trans h (by decide)) (by decide +kernel), a, C, _, rfl, by show 1 ≤ 1000; decide, TC, ha, _, rfl, _, rfl, a, C, rfl, TC, no, ha, fun dx n ne => go dx n ne⟩
abbrev sBadPoint : Stmt := inClass (top 5) 0
theorem scBadPoint : FnScope ["self", "name"] ["self", "name"] (defScope sBadPoint) := ⟨rfl, rfl, rfl, by decide +kernel, rfl, by decide +kernel, by decide +kernel⟩
theorem iniBadPoint {f C : Addr} {fd : FuncData} (F : Fun K "__init__" "BadPoint.__init__" sBadPoint f fd) (T : ErrTxt K mg B) : FnOk P w K mg base CX0 1 f fd ["self", "name"] (spIni K C "name" ShownV) := by
  refine F.ok scBadPoint (fun vs H Q E h => ?_) (fun cdv A outer s H vs Q E hr h => ?_)
  · obtain ⟨a, y, rfl, _⟩ := h
    rfl
  · obtain ⟨a, y, rfl, TC, no, ha, hy, go⟩ := h
    refine ⟨_, pss_cons (ps_expr (pe_base T.base rfl T.gB (pa_cons (pv 0) (pa_cons (pe_joined (.cons pe_str (.cons (pe_shown hr (pv 1)) .nil))) pa_nil)))) (pss_one (ps_field (pv 0) (pv 1))), ?_⟩
    refine ⟨_, rfl, _, rfl, by decide +kernel, _, rfl, ?_⟩
    refine ⟨hy, fun m hm => ?_⟩
    exact ⟨_, rfl, fits (by decide +kernel) (Nat.le_trans hm (by decide)), a, C, _, rfl, by show 1 ≤ 1000; decide, TC, ha, _, rfl, _, rfl, a, C, rfl, TC, no, ha, fun dx n ne => go dx n ne⟩
abbrev sBadPaper : Stmt := inClass (top 6) 0
theorem scBadPaper : FnScope ["self", "at"] ["self", "at"] (defScope sBadPaper) := ⟨rfl, rfl, rfl, by decide +kernel, rfl, by decide +kernel, by decide +kernel⟩
theorem iniBadPaper {f C : Addr} {fd : FuncData} (F : Fun K "__init__" "BadPaper.__init__" sBadPaper f fd) (T : ErrTxt K mg B) : FnOk P w K mg base CX0 1 f fd ["self", "at"] (spIni K C "at" Told) := by
  refine F.ok scBadPaper (fun vs H Q E h => ?_) (fun cdv A outer s H vs Q E hr h => ?_)
  · obtain ⟨a, y, rfl, _⟩ := h
    rfl
  · obtain ⟨a, y, rfl, TC, no, ha, hy, go⟩ := h
    refine ⟨_, pss_cons (ps_expr (pe_base T.base rfl T.gB (pa_cons (pv 0) (pa_cons (pe_joined (.cons pe_str (.cons (pe_fmt (pv 1)) (.cons pe_str .nil)))) pa_nil)))) (pss_one (ps_field (pv 0) (pv 1))), ?_⟩
    refine ⟨_, rfl, _, rfl, by decide +kernel, _, rfl, ?_⟩
    cases hy with
    | num i h => exact .inr ⟨i, rfl, h, _, rfl, fits (by decide +kernel) (Nat.le_trans (PyProof.Rows.int_text_len_1921 h) (by decide)), _, rfl, fits2 (by decide +kernel) (Nat.le_trans (PyProof.Rows.int_text_len_1921 h) (by decide)) (by decide +kernel), a, C, _, rfl, by show 1 ≤ 1000; decide, TC, ha, _, rfl, _, rfl, a, C, rfl, TC, no, ha, fun dx n ne => go dx n ne⟩
    | txt y h => exact .inl ⟨y, rfl, by rw [sizeLine_eq]; omega, _, rfl, fits (by decide +kernel) (Nat.le_trans h (by decide)), _, rfl, fits2 (by decide +kernel) (Nat.le_trans h (by decide)) (by decide +kernel), a, C, _, rfl, by show 1 ≤ 1000; decide, TC, ha, _, rfl, _, rfl, a, C, rfl, TC, no, ha, fun dx n ne => go dx n ne⟩
abbrev sBadLine : Stmt := inClass (top 7) 0
theorem scBadLine : FnScope ["self", "at"] ["self", "at"] (defScope sBadLine) := ⟨rfl, rfl, rfl, by decide +kernel, rfl, by decide +kernel, by decide +kernel⟩
theorem iniBadLine {f C : Addr} {fd : FuncData} (F : Fun K "__init__" "BadLine.__init__" sBadLine f fd) (T : ErrTxt K mg B) : FnOk P w K mg base CX0 1 f fd ["self", "at"] (spIni K C "at" Told) := by
  refine F.ok scBadLine (fun vs H Q E h => ?_) (fun cdv A outer s H vs Q E hr h => ?_)
  · obtain ⟨a, y, rfl, _⟩ := h
    rfl
  · obtain ⟨a, y, rfl, TC, no, ha, hy, go⟩ := h
    refine ⟨_, pss_cons (ps_expr (pe_base T.base rfl T.gB (pa_cons (pv 0) (pa_cons (pe_joined (.cons pe_str (.cons (pe_fmt (pv 1)) (.cons pe_str .nil)))) pa_nil)))) (pss_one (ps_field (pv 0) (pv 1))), ?_⟩
    refine ⟨_, rfl, _, rfl, by decide +kernel, _, rfl, ?_⟩
    cases hy with
    | num i h => exact .inr ⟨i, rfl, h, _, rfl, fits (by decide +kernel) (Nat.le_trans (PyProof.Rows.int_text_len_1921 h) (by decide)), _, rfl, fits2 (by decide +kernel) (Nat.le_trans (PyProof.Rows.int_text_len_1921 h) (by decide)) (by decide +kernel), a, C, _, rfl, by show 1 ≤ 1000; decide, TC, ha, _, rfl, _, rfl, a, C, rfl, TC, no, ha, fun dx n ne => go dx n ne⟩
    | txt y h => exact .inl ⟨y, rfl, by rw [sizeLine_eq]; omega, _, rfl, fits (by decide +kernel) (Nat.le_trans h (by decide)), _, rfl, fits2 (by decide +kernel) (Nat.le_trans h (by decide)) (by decide +kernel), a, C, _, rfl, by show 1 ≤ 1000; decide, TC, ha, _, rfl, _, rfl, a, C, rfl, TC, no, ha, fun dx n ne => go dx n ne⟩
abbrev sImpossible : Stmt := inClass (top 8) 0
theorem scImpossible : FnScope ["self", "name"] ["self", "name"] (defScope sImpossible) := ⟨rfl, rfl, rfl, by decide +kernel, rfl, by decide +kernel, by decide +kernel⟩
theorem iniImpossible {f C : Addr} {fd : FuncData} (F : Fun K "__init__" "Impossible.__init__" sImpossible f fd) (T : ErrTxt K mg B) : FnOk P w K mg base CX0 1 f fd ["self", "name"] (spIni K C "name" Told) := by
  refine F.ok scImpossible (fun vs H Q E h => ?_) (fun cdv A outer s H vs Q E hr h => ?_)
  · obtain ⟨a, y, rfl, _⟩ := h
    rfl
  · obtain ⟨a, y, rfl, TC, no, ha, hy, go⟩ := h
    refine ⟨_, pss_cons (ps_expr (pe_base T.base rfl T.gB (pa_cons (pv 0) (pa_cons (pe_joined (.cons pe_str (.cons (pe_fmt (pv 1)) (.cons pe_str .nil)))) pa_nil)))) (pss_one (ps_field (pv 0) (pv 1))), ?_⟩
    refine ⟨_, rfl, _, rfl, by decide +kernel, _, rfl, ?_⟩
    cases hy with
    | num i h => exact .inr ⟨i, rfl, h, _, rfl, fits (by decide +kernel) (Nat.le_trans (PyProof.Rows.int_text_len_1921 h) (by decide)), _, rfl, fits2 (by decide +kernel) (Nat.le_trans (PyProof.Rows.int_text_len_1921 h) (by decide)) (by decide +kernel), a, C, _, rfl, by show 1 ≤ 1000; decide, TC, ha, _, rfl, _, rfl, a, C, rfl, TC, no, ha, fun dx n ne => go dx n ne⟩
    | txt y h => exact .inl ⟨y, rfl, by rw [sizeLine_eq]; omega, _, rfl, fits (by decide +kernel) (Nat.le_trans h (by decide)), _, rfl, fits2 (by decide +kernel) (Nat.le_trans h (by decide)) (by decide +kernel), a, C, _, rfl, by show 1 ≤ 1000; decide, TC, ha, _, rfl, _, rfl, a, C, rfl, TC, no, ha, fun dx n ne => go dx n ne⟩
abbrev sBroken : Stmt := inClass (top 9) 0
theorem scBroken : FnScope ["self", "name"] ["self", "name"] (defScope sBroken) := ⟨rfl, rfl, rfl, by decide +kernel, rfl, by decide +kernel, by decide +kernel⟩
theorem iniBroken {f C : Addr} {fd : FuncData} (F : Fun K "__init__" "Broken.__init__" sBroken f fd) (T : ErrTxt K mg B) : FnOk P w K mg base CX0 1 f fd ["self", "name"] (spIni K C "name" Told) := by
  refine F.ok scBroken (fun vs H Q E h => ?_) (fun cdv A outer s H vs Q E hr h => ?_)
  · obtain ⟨a, y, rfl, _⟩ := h
    rfl
  · obtain ⟨a, y, rfl, TC, no, ha, hy, go⟩ := h
    refine ⟨_, pss_cons (ps_expr (pe_base T.base rfl T.gB (pa_cons (pv 0) (pa_cons (pe_joined (.cons pe_str (.cons (pe_fmt (pv 1)) (.cons pe_str .nil)))) pa_nil)))) (pss_one (ps_field (pv 0) (pv 1))), ?_⟩
    refine ⟨_, rfl, _, rfl, by decide +kernel, _, rfl, ?_⟩
    cases hy with
    | num i h => exact .inr ⟨i, rfl, h, _, rfl, fits (by decide +kernel) (Nat.le_trans (PyProof.Rows.int_text_len_1921 h) (by decide)), _, rfl, fits2 (by decide +kernel) (Nat.le_trans (PyProof.Rows.int_text_len_1921 h) (by decide)) (by decide +kernel), a, C, _, rfl, by show 1 ≤ 1000; decide, TC, ha, _, rfl, _, rfl, a, C, rfl, TC, no, ha, fun dx n ne => go dx n ne⟩
    | txt y h => exact .inl ⟨y, rfl, by rw [sizeLine_eq]; omega, _, rfl, fits (by decide +kernel) (Nat.le_trans h (by decide)), _, rfl, fits2 (by decide +kernel) (Nat.le_trans h (by decide)) (by decide +kernel), a, C, _, rfl, by show 1 ≤ 1000; decide, TC, ha, _, rfl, _, rfl, a, C, rfl, TC, no, ha, fun dx n ne => go dx n ne⟩
abbrev sTooMany : Stmt := inClass (top 10) 0
theorem scTooMany : FnScope ["self", "word"] ["self", "word"] (defScope sTooMany) := ⟨rfl, rfl, rfl, by decide +kernel, rfl, by decide +kernel, by decide +kernel⟩
theorem iniTooMany {f C : Addr} {fd : FuncData} (F : Fun K "__init__" "TooMany.__init__" sTooMany f fd) (T : ErrTxt K mg B) : FnOk P w K mg base CX0 1 f fd ["self", "word"] (spIni K C "word" Told) := by
  refine F.ok scTooMany (fun vs H Q E h => ?_) (fun cdv A outer s H vs Q E hr h => ?_)
  · obtain ⟨a, y, rfl, _⟩ := h
    rfl
  · obtain ⟨a, y, rfl, TC, no, ha, hy, go⟩ := h
    refine ⟨_, pss_cons (ps_expr (pe_base T.base rfl T.gB (pa_cons (pv 0) (pa_cons (pe_joined (.cons pe_str (.cons (pe_fmt (pv 1)) .nil))) pa_nil)))) (pss_one (ps_field (pv 0) (pv 1))), ?_⟩
    refine ⟨_, rfl, _, rfl, by decide +kernel, _, rfl, ?_⟩
    cases hy with
    | num i h => exact .inr ⟨i, rfl, h, _, rfl, fits (by decide +kernel) (Nat.le_trans (PyProof.Rows.int_text_len_1921 h) (by decide)), a, C, _, rfl, by show 1 ≤ 1000; decide, TC, ha, _, rfl, _, rfl, a, C, rfl, TC, no, ha, fun dx n ne => go dx n ne⟩
    | txt y h => exact .inl ⟨y, rfl, by rw [sizeLine_eq]; omega, _, rfl, fits (by decide +kernel) (Nat.le_trans h (by decide)), a, C, _, rfl, by show 1 ≤ 1000; decide, TC, ha, _, rfl, _, rfl, a, C, rfl, TC, no, ha, fun dx n ne => go dx n ne⟩
abbrev sNothingThere : Stmt := inClass (top 11) 0
theorem scNothingThere : FnScope ["self", "word"] ["self", "word"] (defScope sNothingThere) := ⟨rfl, rfl, rfl, by decide +kernel, rfl, by decide +kernel, by decide +kernel⟩
theorem iniNothingThere {f C : Addr} {fd : FuncData} (F : Fun K "__init__" "NothingThere.__init__" sNothingThere f fd) (T : ErrTxt K mg B) : FnOk P w K mg base CX0 1 f fd ["self", "word"] (spIni K C "word" Told) := by
  refine F.ok scNothingThere (fun vs H Q E h => ?_) (fun cdv A outer s H vs Q E hr h => ?_)
  · obtain ⟨a, y, rfl, _⟩ := h
    rfl
  · obtain ⟨a, y, rfl, TC, no, ha, hy, go⟩ := h
    refine ⟨_, pss_cons (ps_expr (pe_base T.base rfl T.gB (pa_cons (pv 0) (pa_cons (pe_joined (.cons pe_str (.cons (pe_fmt (pv 1)) .nil))) pa_nil)))) (pss_one (ps_field (pv 0) (pv 1))), ?_⟩
    refine ⟨_, rfl, _, rfl, by decide +kernel, _, rfl, ?_⟩
    cases hy with
    | num i h => exact .inr ⟨i, rfl, h, _, rfl, fits (by decide +kernel) (Nat.le_trans (PyProof.Rows.int_text_len_1921 h) (by decide)), a, C, _, rfl, by show 1 ≤ 1000; decide, TC, ha, _, rfl, _, rfl, a, C, rfl, TC, no, ha, fun dx n ne => go dx n ne⟩
    | txt y h => exact .inl ⟨y, rfl, by rw [sizeLine_eq]; omega, _, rfl, fits (by decide +kernel) (Nat.le_trans h (by decide)), a, C, _, rfl, by show 1 ≤ 1000; decide, TC, ha, _, rfl, _, rfl, a, C, rfl, TC, no, ha, fun dx n ne => go dx n ne⟩
end
end K0E

set_option Elab.async false
set_option linter.all false
set_option maxRecDepth 100000
set_option maxHeartbeats 4000000
/-! [e for x in range(a)] within an except suite (the error that is handled has no context of its own). -/
namespace L2
open PySem PySem.Spec PyProof.Rows
/-- the reading: P by the turn -/
def tHotLc (ta : TA) (g : TG) (te : TE) (vs : List Nat) : TE := fun σ H Q => ta σ H fun us H1 => ∃ n : Nat, us = [.int n] ∧ (n : Int) < 2 ^ 62 ∧ ∀ D, H1 D = none → ∃ P : Nat → Hp → Prop, P 0 (upd H1 D (.lst [])) ∧
  (∀ i H', i < n → P i H' → g (.int i) (wipe σ vs) H' fun σ2 H2 => wipe σ2 vs = wipe σ vs ∧ te σ2 H2 fun y H3 => ∃ acc, H3 D = some (.lst acc) ∧ acc.length < sizeLine ∧ P (i + 1) (upd H3 D (.lst (acc ++ [y])))) ∧ ∀ H', P n H' → Q (.ref D) H'
section
variable {X : Cx} {pins : List (Addr × Obj)} {σ : St} {H : Hp} {s : Shared}
/-- a range that was just made gives its iterator -/
theorem range_iter {R : Addr → Shared → Prop} {E : Value → Shared → Prop} {n : Nat} {t u v : Tok} {tk : Nat} (I : Inv X pins σ H s) (hn : (n : Int) < 2 ^ 62)
    (go : ∀ it s2, Inv X pins σ H s2 → IsRangeIter s2.heap it 0 n 1 → s.heap.objs.size ≤ it → FpOk X pins H it → R it s2) :
    wpAny (model X.prog X.w) X.A (pyIter (.ref s.heap.objs.size)) (fun w s2 => ∃ it, w = .ref it ∧ R it s2) E { s with heap := s.heap.push { cls := .type "range", data := .fields #[.int 0 t, .int n u, .int 1 v] }, toks := tk } := by
  have keep : ∀ b o, s.heap.get? b = some o → (s.heap.push { cls := .type "range", data := .fields #[.int 0 t, .int n u, .int 1 v] }).get? b = some o := fun _ _ e => Heap.get?_push_of_some _ e
  have I1 : Inv X pins σ H { s with heap := s.heap.push { cls := .type "range", data := .fields #[.int 0 t, .int n u, .int 1 v] }, toks := tk } := I.kept keep
  refine wpAny_pyIter_range (IsRange.new ..) (small_one (by decide) (by decide) (by omega) hn) ?_
  refine ⟨_, rfl, go _ _ (I1.kept (t' := tk) fun b o e => Heap.get?_push_of_some _ e) ?_ ?_ (I1.fpOk (Nat.le_refl _) (I1.hok.fresh (Nat.le_refl _)))⟩
  · have e2 : (n : Int) = Builtin.Range.rangeSize 0 n 1 := by rw [rangeSize_one]; split <;> omega
    refine (Heap.get?_push_size _ rfl).trans ?_
    rw [← e2]
  · rw [Heap.size_push]
    exact Nat.le_succ _
theorem pe_hotLc {elt tg a : Expr} {scope : Scope} {own : List (Str × Nat)} {p p2 pos : Pos} {ta : TA} {g : TG} {te : TE} (hot : L2H.HotC X) (hN : X.N.Nodup) (gr : Gl X "range") (mr : X.mg "range" = none) (ha : PA X [a] ta) (ok : BlkOk X.N X.env.scope scope own)
    (hg : ∀ (s : Shared) (H : Hp) (C : Addr) (cl : List (Str × Addr)) (fp : List Addr), PG (X.blk s H scope (compEnvC scope cl C X.env) fp) tg g) (he : ∀ (s : Shared) (H : Hp) (C : Addr) (cl : List (Str × Addr)) (fp : List Addr), PE (X.blk s H scope (compEnvC scope cl C X.env) fp) elt te)
    (hs : ∀ x, foldedSetIterable (.Call (.Name "range" p) [a] [] p2) X.env x = pure x := by intro _; rfl) (hst : starEach [a] X.env = [(false, eval a X.env)] := by rfl) :
    PE X (.ListComp elt [⟨tg, .Call (.Name "range" p) [a] [] p2, [], 0⟩] scope pos) (tHotLc ta g te (own.map (·.2))) := by
  refine ⟨fun pins s σ H Q I h => ?_⟩
  rw [eval_ListComp]
  have hfree : ∀ y ∈ scope.names, y.2 = .free → ∃ c, X.env.cells.lookup y.1 = some c := fun y hy e => (ok.free y hy e).elim (fun k => I.ok.has _ (.inl k)) fun k => I.ok.has _ (.inr k)
  refine wpAny_comprehension_free rfl hs (closure_ok hfree) ok.kind (fun y hy e => by rw [ok.uniq y hy, e]) ?_
  -- range(a), its iterator
  have made : wpAny (model X.prog X.w) X.A (eval (.Call (.Name "range" p) [a] [] p2) X.env) (fun v s1 => wpAny (model X.prog X.w) X.A (pyIter v) (fun w s2 => ∃ (it : Addr) (n : Nat) (H1 : Hp), w = .ref it ∧ Inv X pins σ H1 s2 ∧ IsRangeIter s2.heap it 0 n 1 ∧ FpOk X pins H1 it ∧
      ∀ D, H1 D = none → ∃ P : Nat → Hp → Prop, P 0 (upd H1 D (.lst [])) ∧ (∀ i H', i < n → P i H' → g (.int i) (wipe σ (own.map (·.2))) H' fun σ2 H2 => wipe σ2 (own.map (·.2)) = wipe σ (own.map (·.2)) ∧ te σ2 H2 fun y H3 => ∃ acc, H3 D = some (.lst acc) ∧ acc.length < sizeLine ∧ P (i + 1) (upd H3 D (.lst (acc ++ [y])))) ∧ ∀ H', P n H' → Q (.ref D) H') X.xe s1) X.xe s := by
    refine Call_ (ld_blt I gr mr boot_range (PyProof.Rows.callWith_type1 (thn (ha.run p2 pins s σ H _ I h) fun us s1 ⟨vs, H1, I1, r1, n, ev, hn, q1⟩ => ?_) hst rfl))
    subst ev
    cases r1 with
    | cons r rr =>
      cases rr
      obtain ⟨t, rfl⟩ := r
      refine call_range_1 ?_
      refine thn (range_iter I1 hn (R := fun it s2 => Inv X pins σ H1 s2 ∧ IsRangeIter s2.heap it 0 n 1 ∧ FpOk X pins H1 it) fun it s2 I2 hit _ fo => ⟨I2, hit, fo⟩) fun w s2 ⟨it, ew, I2, hit, fo⟩ => ⟨it, n, H1, ew, I2, hit, fo, q1⟩
  refine thn made fun xv s1 hx => thn hx fun itv s2 h2 => ?_
  obtain ⟨it, n, H2, e, I2, hit2, f2, q⟩ := h2
  subst e
  refine wpAny_newObj_type (newEnv_comp ?_) (by show 0 ≤ sizeLine; decide)
  generalize hD : s2.heap.objs.size = D
  have fresh : H2 D = none := I2.hok.fresh (Nat.le_of_eq hD)
  obtain ⟨P, p0, turn, last⟩ := q D fresh
  -- the new list at D
  generalize hs3 : ({ s2 with heap := s2.heap.push { cls := .type "list", data := .seq ([] : List Value).toArray } } : Shared) = s3
  have eq3 : s3.heap = s2.heap.push { cls := .type "list", data := .seq ([] : List Value).toArray } := by rw [← hs3]
  have I3 : Inv X pins σ (upd H2 D (.lst [])) s3 := by
    rw [← hs3]
    refine I2.laid (t' := s2.toks) (fun b o e => Heap.get?_push_of_some _ e) (Nat.le_of_eq hD) ⟨Nat.zero_le _, [], 0, .nil, ?_⟩
    rw [← hD]
    exact Heap.get?_push_size _ rfl
  have hit3 : IsRangeIter s3.heap it 0 n 1 := by
    rw [eq3]
    exact Heap.get?_push_of_some _ hit2
  have nD : it ≠ D := by
    rw [← hD]
    exact Nat.ne_of_lt (Heap.lt_size hit2)
  have f3 : FpOk X pins (upd H2 D (.lst [])) it := ⟨(upd_ne nD).trans f2.1, f2.2⟩
  -- the error that is handled stands
  obtain ⟨⟨x1, o1⟩, ⟨hh, v1, e1, c1⟩, hp1⟩ := hot
  obtain ⟨g1, z1, l1, k1, _⟩ := I3.pin (x1, o1) (List.mem_append_left _ hp1)
  have nX : x1 ≠ it := f3.2.2.2.2.2 _ (List.mem_append_left _ hp1)
  have out : x1 ∉ frs X.stack := fun hm => by
    rcases List.mem_cons.mp (I3.stkSub x1 hm) with z | z
    · exact l1 z
    · exact k1 z
  have I4 := block_start (fp := [it]) I3 ok hN (fun b hb => by
    obtain rfl : b = it := by simpa using hb
    exact ⟨f3, Heap.lt_size hit3⟩)
  have pg := hg s3 (upd H2 D (.lst [])) s3.heap.objs.size (cellsFrom (s3.heap.objs.size + 1) scope.names (cloFrom X.env.cells scope.names [])) [it]
  have pe := he s3 (upd H2 D (.lst [])) s3.heap.objs.size (cellsFrom (s3.heap.objs.size + 1) scope.names (cloFrom X.env.cells scope.names [])) [it]
  show codeAny _ _ (.compStart (.ListComp elt [⟨tg, .Call (.Name "range" p) [a] [] p2, [], 0⟩] scope pos) 0 (.ref it) (.ref D) (compEnvC scope (cellsFrom (s3.heap.objs.size + 1) scope.names (cloFrom X.env.cells scope.names [])) s3.heap.objs.size X.env)) (compPost (model X.prog X.w) X.A X.xe none (EP X pins σ Q) (.ref D) s3.heap.objs.size) { s3 with heap := pushCells (s3.heap.push { cls := .type "dict", data := .dict #[] }) scope.names }
  generalize hce : compEnvC scope (cellsFrom (s3.heap.objs.size + 1) scope.names (cloFrom X.env.cells scope.names [])) s3.heap.objs.size X.env = ce at I4 pg pe ⊢
  have cL : ce.locals = s3.heap.objs.size := by subst hce; rfl
  have nIt : upd H2 D (.lst []) it = none := f3.1
  generalize hH3 : upd H2 D (.lst []) = H3 at I3 I4 pg pe p0 nIt f3 z1
  generalize hs4 : ({ s3 with heap := pushCells (s3.heap.push { cls := .type "dict", data := .dict #[] }) scope.names } : Shared) = s4 at I4 ⊢
  have hit4 : IsRangeIter s4.heap it 0 n 1 := by
    rw [← hs4]
    exact pushCells_keeps _ _ _ _ (Heap.get?_push_of_some _ hit3)
  have stat : ∀ {σ5 : St} {H5 : Hp} {s5 : Shared}, Inv (X.blk s3 H3 scope ce [it]) [] σ5 H5 s5 → H5 it = none → FpOk (X.blk s3 H3 scope ce [it]) [] H5 it := fun I5 hn =>
    ⟨hn, (I5.ok.exf it (List.mem_singleton.mpr rfl)).1, I5.ok.exfs it (List.mem_singleton.mpr rfl), .inl (List.mem_singleton.mpr rfl), fun x c e => (I5.ok.exf it (List.mem_singleton.mpr rfl)).2 x c e, fun q hq => absurd (show q ∈ ([] : List (Addr × Obj)) ++ [] from hq) (by simp)⟩
  have loop : codeAny (model X.prog X.w) X.A (.compLoop (.ListComp elt [⟨tg, .Call (.Name "range" p) [a] [] p2, [], 0⟩] scope pos) 0 (.ref it) (.ref D) ce) (compPost (model X.prog X.w) X.A X.xe none (EP X pins σ Q) (.ref D) s3.heap.objs.size) s4 := by
    refine compLoop_any (fun m s5 => ∃ (i : Nat) (H5 : Hp), m = n - i ∧ i ≤ n ∧ Inv (X.blk s3 H3 scope ce [it]) [] (wipe σ (own.map (·.2))) H5 s5 ∧ IsRangeIter s5.heap it (i : Int) ((n : Int) - i) 1 ∧ H5 it = none ∧ P i H5) ?_ n
      ⟨0, H3, by omega, Nat.zero_le _, I4, by simpa using hit4, nIt, p0⟩
    rintro m s5 ⟨i, H5, rfl, hi, I5, hit5, n5, p5⟩
    by_cases hlt : i < n
    · refine wpAny_pyNext_range_item hit5 (by omega) fun h6 hit6 sb6 => ?_
      obtain ⟨f0, f1, f4, f5, f6, f7⟩ := stat I5 n5
      have I6 : Inv (X.blk s3 H3 scope ce [it]) [] (wipe σ (own.map (·.2))) H5 { s5 with heap := h6, toks := s5.toks + 1 } := I5.turned (fun b o hb e => (sb6.2 b hb).trans e) f0 f1 f5 f6 f7
      show wpAny _ _ (letOwnedTupleGo tg (.ref it) (.int i s5.toks)) _ _ _
      refine go_of (s := { s5 with heap := h6, toks := s5.toks + 1 }) (n := "range_iterator") hit6 rfl rfl (by decide) ?_
      have I6p := I6.pinned (fp := [it]) (fun b hb => by rw [List.mem_singleton.mp hb]; exact stat I6 n5) (fun b hb => by
        obtain rfl : b = it := by simpa using hb
        exact ⟨_, hit6, fun v z => by
          have z' : Data.fields _ = Data.cell v := z
          cases z'⟩)
      refine thnF (pg.run _ _ _ H5 (.int i) (.int i s5.toks) _ I6p ⟨_, rfl⟩ (turn i H5 hlt p5)) fun _ s8 ⟨σ8, H8, I8, hw8, q8⟩ => ?_
      refine wpAny_tests_nil ?_
      simp only [if_true]
      refine thnF (pe.run _ s8 σ8 H8 _ I8 q8) fun z s9 ⟨yv, H9, I9, r9, acc, hD9, hz9, nx⟩ => ?_
      refine app_ok (X := X.blk s3 H3 scope ce [it]) I9 hD9 hz9 r9 fun s10 I10 => ?_
      have hpin := I10.pin (it, _) (List.mem_append_right _ (List.mem_append_right _ (mem_pinsAt (List.mem_singleton.mpr rfl) hit6)))
      have hl : (wipe σ (own.map (·.2))).length = σ8.length := by rw [← hw8, wipe_length]
      refine ⟨n - (i + 1), by omega, i + 1, _, rfl, hlt, (I10.unpinned (pins := [])).weak hl (fun j v e => ?_), ?_, hpin.2.1, nx⟩
      · rw [← hw8] at e
        exact (wipe_some e).1
      · have e1 : ((i + 1 : Nat) : Int) = (i : Int) + 1 := by omega
        have e2 : (n : Int) - ((i + 1 : Nat) : Int) = (n : Int) - i - 1 := by omega
        rw [e1, show (n : Int) - ((i : Int) + 1) = (n : Int) - i - 1 from by omega]
        exact hpin.1
    · obtain rfl : i = n := by omega
      have at5 : s5.heap.get? x1 = some o1 := I5.base.keep x1 o1 g1 z1 out (fun hm => nX (by simpa using hm))
      refine HotX.pyNext_range_end_hot ⟨hh, o1, v1, at5, e1, c1⟩ hit5 (by omega) fun h6 keep => ?_
      have I6 : Inv (X.blk s3 H3 scope ce [it]) [] (wipe σ (own.map (·.2))) H5 { s5 with heap := h6 } := I5.kept (t' := s5.toks) keep
      have I7 : Inv X pins σ H5 { s5 with heap := h6 } := I3.call' (ch := [it]) I6.os I6.base I6.hok I6.bare fun b hb => by
        obtain rfl : b = it := by simpa using hb
        exact ⟨f3.2.2.2.1, f3.2.1, f3.2.2.2.2.1, f3.2.2.2.2.2⟩
      have nC : H5 s3.heap.objs.size = none := by
        have z : H5 ce.locals = none := I6.free
        rw [cL] at z
        exact z
      obtain ⟨mm, hn, _⟩ := I6.loc
      have hn : h6.Ns ce.locals mm := hn
      rw [cL] at hn
      refine ⟨mm, hn, fun h'' sb => ?_⟩
      obtain ⟨k0, k2, k3, k4, k5, k6⟩ := I3.fpOk (Nat.le_refl _) nC
      exact ⟨.ref D, H5, I7.turned (t' := s5.toks) (fun b o hb e => (sb.2 b hb).trans e) k0 k2 k4 k5 k6, rfl, last H5 p5⟩
  exact codeAny_compStart_list loop (wpAny_pyIter_rangeiter hit4 loop)
end
end L2

set_option Elab.async false
set_option linter.all false
set_option maxRecDepth 100000
set_option maxHeartbeats 4000000
/-! The law raises each of the ten, and catches it. -/
namespace K0E
open PySem L2
def nmE : Nat → Str
  | 0 => "BadValue" | 1 => "BadStep" | 2 => "BadClaim" | 3 => "BadPaper" | 4 => "BadLine" | 5 => "BadPoint" | 6 => "Impossible" | 7 => "Broken" | 8 => "TooMany" | _ => "NothingThere"
def flE : Nat → Str
  | 0 => "at" | 1 => "at" | 2 => "at" | 3 => "at" | 4 => "at" | 5 => "name" | 6 => "name" | 7 => "name" | _ => "word"
def okE : Nat → Hp → V → Prop
  | 5 => ShownV
  | _ => Told
theorem ifY {b : Bool} {A B : Prop} (e : b = true) (h : A) : if b = true then A else B := by rw [if_pos e]; exact h
theorem ifN {b : Bool} {A B : Prop} (e : b = false) (h : B) : if b = true then A else B := by rw [e]; exact h
theorem smallUp {H : Hp} {a : Addr} {o : HO} {y : V} (n : H a = none) (h : SmallV H y) : SmallV (upd H a o) y := by
  cases h with
  | flat h => exact .flat h
  | tup e h l => exact .tup ((upd_ne (ne_of_none e n)).trans e) h l
theorem shownUp {H : Hp} {a : Addr} {o : HO} {y : V} (n : H a = none) (h : ShownV H y) : ShownV (upd H a o) y := by
  cases h with
  | small h => exact .small (smallUp n h)
  | lst e h l => exact .lst ((upd_ne (ne_of_none e n)).trans e) (fun x hx => smallUp n (h x hx)) l
theorem toldUp {H : Hp} {a : Addr} {o : HO} {y : V} (h : Told H y) : Told (upd H a o) y := by
  cases h with
  | num i h => exact .num i h
  | txt y h => exact .txt y h
theorem okUp {H : Hp} {a : Addr} {o : HO} {y : V} (n : H a = none) : ∀ {k : Nat}, okE k H y → okE k (upd H a o) y
  | 0, h => toldUp h | 1, h => toldUp h | 2, h => toldUp h | 3, h => toldUp h | 4, h => toldUp h | 5, h => shownUp n h | (_ + 6), h => toldUp h
/-- the heap behind a raise: the error's own dict is new, all else stands -/
theorem heap_of {H : Hp} {a d : Addr} {o1 o2 o3 o4 : HO} (na : H a = none) (ne : d ≠ a) : upd (del (upd (upd (upd H a o1) d o2) a o3) a) d o4 = upd H d o4 := by
  funext b
  by_cases hd : b = d
  · rw [hd, upd_same, upd_same]
  · rw [upd_ne hd, upd_ne hd]
    by_cases ha : b = a
    · rw [ha, del_same, na]
    · rw [del_ne ha, upd_ne ha, upd_ne hd, upd_ne ha]
/-- what the written part says of the ten classes -/
structure Errs (P : Program) (w : World) (K : PySem.W.Frag) (mg : Str → Option Value) (base : Heap) (B : Addr) (C fI : Nat → Addr) (fd : Nat → FuncData) : Prop where
  gC : ∀ k, k < 10 → mg (nmE k) = some (.ref (C k))
  err : ∀ k, k < 10 → ErrC K (C k)
  iC : ∀ k, k < 10 → PySem.W.findIn K (.ref (C k)) "__init__" = some (some (.ref (fI k)))
  tI : ∀ k, k < 10 → PySem.W.typeIn K (.ref (fI k)) = some (.type "function")
  no : ∀ k, k < 10 → PySem.W.findIn K (.ref (C k)) (flE k) = some none
  bd : ∀ k, k < 10 → Binds K (fd k) ["self", flE k] []
  ini : ∀ k, k < 10 → FnOk P w K mg base CX0 1 (fI k) (fd k) ["self", flE k] (spIni K (C k) (flE k) (okE k))
  gB : mg "FigureError" = some (.ref B)
  exm : ∀ j k, j < 10 → k < 10 → PySem.W.exmOne K (.ref (C k)) (.ref (C j)) = some (decide (k = j))
  exB : ∀ k, k < 10 → PySem.W.exmOne K (.ref (C k)) (.ref B) = some true
  kit : ∀ j k, j < 10 → k < 10 → PySem.W.kitOne K (.ref (C k)) (.ref (C j)) = some (decide (k = j))
  kiA : ∀ k, k < 10 → PySem.W.kitAny K (.ref (C k)) [.type "ValueError", .type "LookupError", .type "ArithmeticError"] = some false
  ask : ∀ k, k < 10 → AskC K (C k)
  xf : ∀ k, k < 10 → XfC K (C k)
/-- _law_raise(kind, given) -/
def spRaise (C : Nat → Addr) : Sp := fun vs H _ E => ∃ (k : Nat) (y : V), vs = [.int k, y] ∧ k < 10 ∧ okE k H y ∧ ∀ d, H d = none → E (.ref (C k)) (some d) (upd H d (.xd [(flE k, y)]))
abbrev sRaise : Stmt := top 18
abbrev sKept : Stmt := top 19
abbrev sClasses : Stmt := top 20
theorem okN {P : Program} {w : World} {K : PySem.W.Frag} {mg : Str → Option Value} {base : Heap} {x qual : Str} {st : Stmt} {f : Addr} {fd : FuncData} {N ps : List Str} {k : Nat} {sp : Sp} (F : Fun K x qual st f fd) (S : FnScope N ps (defScope st)) (len : ∀ vs H Q E, sp vs H Q E → vs.length = ps.length)
    (body : ∀ (cdv : Value) (A : Around) (outer : List Env) (s : Shared) (H : Hp) (vs : List V) (Q : VK) (E : XK), Room k (A.deeper (PyProof.Rows.envOfC qual (defScope st) s.heap.objs.size f cdv)) → sp vs H Q E →
      ∃ t, PSs (cxOf (L2N.CX P w) P w K mg base N qual (defScope st) f cdv A outer s H E) (defBody st) t ∧ t { nx := fun _ H' => Q .non H', rt := Q } (start N vs) H) : FnOk P w K mg base (L2N.CX P w) (k + 1) f fd ps sp := by
  obtain ⟨oc, od, kV, doc, pm, an, cdv, ct, osl, rfl, lk, hcd⟩ := F.ex
  exact fn_of lk hcd S len fun A outer s H vs Q E hr hsp => body cdv A outer s H vs Q E hr hsp
section
variable {P : Program} {w : World} {K : PySem.W.Frag} {mg : Str → Option Value} {base : Heap} {B : Addr} {C fI : Nat → Addr} {fd : Nat → FuncData}
/-- the error of kind k is made: its reading -/
theorem err_read {H : Hp} {y : V} {k : Nat} {Q : XK} {ta : TA} {σ : St} (T : Errs P w K mg base B C fI fd) (hk : k < 10) (ok : okE k H y) (ht : ∀ {R : List V → Hp → Prop}, R [y] H → ta σ H R) (go : ∀ d, H d = none → Q (.ref (C k)) (some d) (upd H d (.xd [(flE k, y)]))) :
    tErr (C k) (spIni K (C k) (flE k) (okE k)) ta σ H Q := by
  refine ht ⟨by show 1 ≤ 1000; decide, fun a na => ⟨a, y, rfl, T.err k hk, T.no k hk, upd_same, okUp na ok, fun dx nd ne => ⟨rfl, dx, _, upd_same, (upd_ne ne).trans upd_same, ?_, ?_⟩⟩⟩
  · rw [upd_ne ne] at nd
    exact nd
  · rw [heap_of na ne]
    rw [upd_ne ne] at nd
    exact go dx nd
theorem scR : FnScope ["kind", "given"] ["kind", "given"] (defScope sRaise) := ⟨rfl, rfl, rfl, by decide +kernel, rfl, by decide +kernel, by decide +kernel⟩
theorem ok_raise {f : Addr} {fdr : FuncData} (F : Fun K "_law_raise" "_law_raise" sRaise f fdr) (T : Errs P w K mg base B C fI fd) : FnOk P w K mg base (L2N.CX P w) 3 f fdr ["kind", "given"] (spRaise C) := by
  refine okN F scR (fun vs H Q E h => ?_) (fun cdv A outer s H vs Q E hr h => ?_)
  · obtain ⟨k, y, rfl, _⟩ := h
    rfl
  · obtain ⟨k, y, rfl, hk, ok, go⟩ := h
    have lt : ∀ j, j < 10 → j < 10 := fun _ h => h
    refine ⟨_, pss_cons (ps_if (pt_cmpR op_eq (pv 0) pe_int (nomark _)) (pss_one (L2N.ps_raise rfl (L2N.takes_of rfl rfl rfl rfl) (pmk_err (T.err 0 (by decide)) (T.iC 0 (by decide)) (T.tI 0 (by decide)) (T.ini 0 (by decide)) hr (T.bd 0 (by decide)) pass0 rfl (T.gC 0 (by decide)) (pa_cons (pv 1) pa_nil)))) pss_nil) (
      pss_cons (ps_if (pt_cmpR op_eq (pv 0) pe_int (nomark _)) (pss_one (L2N.ps_raise rfl (L2N.takes_of rfl rfl rfl rfl) (pmk_err (T.err 1 (by decide)) (T.iC 1 (by decide)) (T.tI 1 (by decide)) (T.ini 1 (by decide)) hr (T.bd 1 (by decide)) pass0 rfl (T.gC 1 (by decide)) (pa_cons (pv 1) pa_nil)))) pss_nil) (
      pss_cons (ps_if (pt_cmpR op_eq (pv 0) pe_int (nomark _)) (pss_one (L2N.ps_raise rfl (L2N.takes_of rfl rfl rfl rfl) (pmk_err (T.err 2 (by decide)) (T.iC 2 (by decide)) (T.tI 2 (by decide)) (T.ini 2 (by decide)) hr (T.bd 2 (by decide)) pass0 rfl (T.gC 2 (by decide)) (pa_cons (pv 1) pa_nil)))) pss_nil) (
      pss_cons (ps_if (pt_cmpR op_eq (pv 0) pe_int (nomark _)) (pss_one (L2N.ps_raise rfl (L2N.takes_of rfl rfl rfl rfl) (pmk_err (T.err 3 (by decide)) (T.iC 3 (by decide)) (T.tI 3 (by decide)) (T.ini 3 (by decide)) hr (T.bd 3 (by decide)) pass0 rfl (T.gC 3 (by decide)) (pa_cons (pv 1) pa_nil)))) pss_nil) (
      pss_cons (ps_if (pt_cmpR op_eq (pv 0) pe_int (nomark _)) (pss_one (L2N.ps_raise rfl (L2N.takes_of rfl rfl rfl rfl) (pmk_err (T.err 4 (by decide)) (T.iC 4 (by decide)) (T.tI 4 (by decide)) (T.ini 4 (by decide)) hr (T.bd 4 (by decide)) pass0 rfl (T.gC 4 (by decide)) (pa_cons (pv 1) pa_nil)))) pss_nil) (
      pss_cons (ps_if (pt_cmpR op_eq (pv 0) pe_int (nomark _)) (pss_one (L2N.ps_raise rfl (L2N.takes_of rfl rfl rfl rfl) (pmk_err (T.err 5 (by decide)) (T.iC 5 (by decide)) (T.tI 5 (by decide)) (T.ini 5 (by decide)) hr (T.bd 5 (by decide)) pass0 rfl (T.gC 5 (by decide)) (pa_cons (pv 1) pa_nil)))) pss_nil) (
      pss_cons (ps_if (pt_cmpR op_eq (pv 0) pe_int (nomark _)) (pss_one (L2N.ps_raise rfl (L2N.takes_of rfl rfl rfl rfl) (pmk_err (T.err 6 (by decide)) (T.iC 6 (by decide)) (T.tI 6 (by decide)) (T.ini 6 (by decide)) hr (T.bd 6 (by decide)) pass0 rfl (T.gC 6 (by decide)) (pa_cons (pv 1) pa_nil)))) pss_nil) (
      pss_cons (ps_if (pt_cmpR op_eq (pv 0) pe_int (nomark _)) (pss_one (L2N.ps_raise rfl (L2N.takes_of rfl rfl rfl rfl) (pmk_err (T.err 7 (by decide)) (T.iC 7 (by decide)) (T.tI 7 (by decide)) (T.ini 7 (by decide)) hr (T.bd 7 (by decide)) pass0 rfl (T.gC 7 (by decide)) (pa_cons (pv 1) pa_nil)))) pss_nil) (
      pss_cons (ps_if (pt_cmpR op_eq (pv 0) pe_int (nomark _)) (pss_one (L2N.ps_raise rfl (L2N.takes_of rfl rfl rfl rfl) (pmk_err (T.err 8 (by decide)) (T.iC 8 (by decide)) (T.tI 8 (by decide)) (T.ini 8 (by decide)) hr (T.bd 8 (by decide)) pass0 rfl (T.gC 8 (by decide)) (pa_cons (pv 1) pa_nil)))) pss_nil) (
      pss_one (L2N.ps_raise rfl (L2N.takes_of rfl rfl rfl rfl) (pmk_err (T.err 9 (by decide)) (T.iC 9 (by decide)) (T.tI 9 (by decide)) (T.ini 9 (by decide)) hr (T.bd 9 (by decide)) pass0 rfl (T.gC 9 (by decide)) (pa_cons (pv 1) pa_nil)))))))))))), ?_⟩
    match k, hk, ok, go with
    | 0, hk, ok, go =>
      refine ⟨_, rfl, rfl, _, rfl, ifY (by decide) ?_⟩
      show tErr (C 0) (spIni K (C 0) (flE 0) (okE 0)) (tCons (tVar 1) tNil) _ H _
      exact err_read T hk ok (fun q => ⟨_, rfl, q⟩) go
    | 1, hk, ok, go =>
      refine ⟨_, rfl, rfl, _, rfl, ifN (by decide) ?_⟩
      refine ⟨_, rfl, rfl, _, rfl, ifY (by decide) ?_⟩
      show tErr (C 1) (spIni K (C 1) (flE 1) (okE 1)) (tCons (tVar 1) tNil) _ H _
      exact err_read T hk ok (fun q => ⟨_, rfl, q⟩) go
    | 2, hk, ok, go =>
      refine ⟨_, rfl, rfl, _, rfl, ifN (by decide) ?_⟩
      refine ⟨_, rfl, rfl, _, rfl, ifN (by decide) ?_⟩
      refine ⟨_, rfl, rfl, _, rfl, ifY (by decide) ?_⟩
      show tErr (C 2) (spIni K (C 2) (flE 2) (okE 2)) (tCons (tVar 1) tNil) _ H _
      exact err_read T hk ok (fun q => ⟨_, rfl, q⟩) go
    | 3, hk, ok, go =>
      refine ⟨_, rfl, rfl, _, rfl, ifN (by decide) ?_⟩
      refine ⟨_, rfl, rfl, _, rfl, ifN (by decide) ?_⟩
      refine ⟨_, rfl, rfl, _, rfl, ifN (by decide) ?_⟩
      refine ⟨_, rfl, rfl, _, rfl, ifY (by decide) ?_⟩
      show tErr (C 3) (spIni K (C 3) (flE 3) (okE 3)) (tCons (tVar 1) tNil) _ H _
      exact err_read T hk ok (fun q => ⟨_, rfl, q⟩) go
    | 4, hk, ok, go =>
      refine ⟨_, rfl, rfl, _, rfl, ifN (by decide) ?_⟩
      refine ⟨_, rfl, rfl, _, rfl, ifN (by decide) ?_⟩
      refine ⟨_, rfl, rfl, _, rfl, ifN (by decide) ?_⟩
      refine ⟨_, rfl, rfl, _, rfl, ifN (by decide) ?_⟩
      refine ⟨_, rfl, rfl, _, rfl, ifY (by decide) ?_⟩
      show tErr (C 4) (spIni K (C 4) (flE 4) (okE 4)) (tCons (tVar 1) tNil) _ H _
      exact err_read T hk ok (fun q => ⟨_, rfl, q⟩) go
    | 5, hk, ok, go =>
      refine ⟨_, rfl, rfl, _, rfl, ifN (by decide) ?_⟩
      refine ⟨_, rfl, rfl, _, rfl, ifN (by decide) ?_⟩
      refine ⟨_, rfl, rfl, _, rfl, ifN (by decide) ?_⟩
      refine ⟨_, rfl, rfl, _, rfl, ifN (by decide) ?_⟩
      refine ⟨_, rfl, rfl, _, rfl, ifN (by decide) ?_⟩
      refine ⟨_, rfl, rfl, _, rfl, ifY (by decide) ?_⟩
      show tErr (C 5) (spIni K (C 5) (flE 5) (okE 5)) (tCons (tVar 1) tNil) _ H _
      exact err_read T hk ok (fun q => ⟨_, rfl, q⟩) go
    | 6, hk, ok, go =>
      refine ⟨_, rfl, rfl, _, rfl, ifN (by decide) ?_⟩
      refine ⟨_, rfl, rfl, _, rfl, ifN (by decide) ?_⟩
      refine ⟨_, rfl, rfl, _, rfl, ifN (by decide) ?_⟩
      refine ⟨_, rfl, rfl, _, rfl, ifN (by decide) ?_⟩
      refine ⟨_, rfl, rfl, _, rfl, ifN (by decide) ?_⟩
      refine ⟨_, rfl, rfl, _, rfl, ifN (by decide) ?_⟩
      refine ⟨_, rfl, rfl, _, rfl, ifY (by decide) ?_⟩
      show tErr (C 6) (spIni K (C 6) (flE 6) (okE 6)) (tCons (tVar 1) tNil) _ H _
      exact err_read T hk ok (fun q => ⟨_, rfl, q⟩) go
    | 7, hk, ok, go =>
      refine ⟨_, rfl, rfl, _, rfl, ifN (by decide) ?_⟩
      refine ⟨_, rfl, rfl, _, rfl, ifN (by decide) ?_⟩
      refine ⟨_, rfl, rfl, _, rfl, ifN (by decide) ?_⟩
      refine ⟨_, rfl, rfl, _, rfl, ifN (by decide) ?_⟩
      refine ⟨_, rfl, rfl, _, rfl, ifN (by decide) ?_⟩
      refine ⟨_, rfl, rfl, _, rfl, ifN (by decide) ?_⟩
      refine ⟨_, rfl, rfl, _, rfl, ifN (by decide) ?_⟩
      refine ⟨_, rfl, rfl, _, rfl, ifY (by decide) ?_⟩
      show tErr (C 7) (spIni K (C 7) (flE 7) (okE 7)) (tCons (tVar 1) tNil) _ H _
      exact err_read T hk ok (fun q => ⟨_, rfl, q⟩) go
    | 8, hk, ok, go =>
      refine ⟨_, rfl, rfl, _, rfl, ifN (by decide) ?_⟩
      refine ⟨_, rfl, rfl, _, rfl, ifN (by decide) ?_⟩
      refine ⟨_, rfl, rfl, _, rfl, ifN (by decide) ?_⟩
      refine ⟨_, rfl, rfl, _, rfl, ifN (by decide) ?_⟩
      refine ⟨_, rfl, rfl, _, rfl, ifN (by decide) ?_⟩
      refine ⟨_, rfl, rfl, _, rfl, ifN (by decide) ?_⟩
      refine ⟨_, rfl, rfl, _, rfl, ifN (by decide) ?_⟩
      refine ⟨_, rfl, rfl, _, rfl, ifN (by decide) ?_⟩
      refine ⟨_, rfl, rfl, _, rfl, ifY (by decide) ?_⟩
      show tErr (C 8) (spIni K (C 8) (flE 8) (okE 8)) (tCons (tVar 1) tNil) _ H _
      exact err_read T hk ok (fun q => ⟨_, rfl, q⟩) go
    | 9, hk, ok, go =>
      refine ⟨_, rfl, rfl, _, rfl, ifN (by decide) ?_⟩
      refine ⟨_, rfl, rfl, _, rfl, ifN (by decide) ?_⟩
      refine ⟨_, rfl, rfl, _, rfl, ifN (by decide) ?_⟩
      refine ⟨_, rfl, rfl, _, rfl, ifN (by decide) ?_⟩
      refine ⟨_, rfl, rfl, _, rfl, ifN (by decide) ?_⟩
      refine ⟨_, rfl, rfl, _, rfl, ifN (by decide) ?_⟩
      refine ⟨_, rfl, rfl, _, rfl, ifN (by decide) ?_⟩
      refine ⟨_, rfl, rfl, _, rfl, ifN (by decide) ?_⟩
      refine ⟨_, rfl, rfl, _, rfl, ifN (by decide) ?_⟩
      show tErr (C 9) (spIni K (C 9) (flE 9) (okE 9)) (tCons (tVar 1) tNil) _ H _
      exact err_read T hk ok (fun q => ⟨_, rfl, q⟩) go
    | (k + 10), hk, _, _ => exact absurd hk (by omega)
end
end K0E

set_option Elab.async false
set_option linter.all false
set_option maxRecDepth 100000
set_option maxHeartbeats 4000000
/-! The law catches each of the ten by its own name, and by the base's. -/
namespace K0E
open PySem L2
theorem takes0N {X : Cx} : L2N.Takes X (fun _ _ _ _ => False) := fun _ _ ⟨_, _, _, _, _, _, _, _, _, _, _, _, _, _, _, _, z⟩ => z.elim
/-- _law_kept(kind, given): (kind, given) -/
def spKept : Sp := fun vs H Q _ => ∃ (k : Nat) (y : V), vs = [.int k, y] ∧ k < 10 ∧ okE k H y ∧ ∀ (t : Addr) (H' : Hp), Same H H' → H t = none → H' t = some (.tup [.int k, y]) → Q (.ref t) H'
/-- _law_classes(kind, given): True -/
def spClasses : Sp := fun vs H Q _ => ∃ (k : Nat) (y : V), vs = [.int k, y] ∧ k < 10 ∧ okE k H y ∧ ∀ (H' : Hp), Same H H' → Q (.bl true) H'
structure LawTxt (P : Program) (w : World) (K : PySem.W.Frag) (mg : Str → Option Value) (base : Heap) (B : Addr) (C fI : Nat → Addr) (fd : Nat → FuncData) (fR : Addr) : Prop where
  errs : Errs P w K mg base B C fI fd
  gR : mg "_law_raise" = some (.ref fR)
  kR : PySem.W.keepIn K (.ref fR) = true
  isinst : mg "isinstance" = none
  vErr : mg "ValueError" = none
  lErr : mg "LookupError" = none
  aErr : mg "ArithmeticError" = none
  range : mg "range" = none
section
variable {P : Program} {w : World} {K : PySem.W.Frag} {mg : Str → Option Value} {base : Heap} {B fR : Addr} {C fI : Nat → Addr} {fd : Nat → FuncData}
theorem scK : FnScope ["kind", "given", "e"] ["kind", "given"] (defScope sKept) := ⟨rfl, rfl, rfl, by decide +kernel, rfl, by decide +kernel, by decide +kernel⟩
theorem ok_kept {f : Addr} {fdk fdr : FuncData} (F : Fun K "_law_kept" "_law_kept" sKept f fdk) (T : LawTxt P w K mg base B C fI fd fR) (GR : FnOk P w K mg base (L2N.CX P w) 3 fR fdr ["kind", "given"] (spRaise C)) (bR : Binds K fdr ["kind", "given"] []) :
    FnOk P w K mg base CX0 4 f fdk ["kind", "given"] spKept := by
  refine F.ok scK (fun vs H Q E h => ?_) (fun cdv A outer s H vs Q E hr h => ?_)
  · obtain ⟨k, y, rfl, _⟩ := h
    rfl
  · obtain ⟨k, y, rfl, hk, ok, go⟩ := h
    have U := T.errs
    refine ⟨_, pss_cons (ps_try_each (i := 2) (tb := fun W => tDrop (tCallS (spRaise C) (WE W) (tCons (tVar 0) (tCons (tVar 1) tNil)))) rfl rfl scK.nd rfl rfl takes0N
      (fun W pn xe tk _ => pss_one (ps_expr (by exact (pe_callS GR hr rfl T.gR T.kR bR (fun σ => L2N.passAt tk σ) (by exact (pa_cons (pv 0) (pa_cons (pv 1) pa_nil)))))))
      (.cons ⟨rfl, by decide, .inl (U.gC 0 (by decide))⟩ (fun a oe cls d pn hz hf => pss_one (ps_ret (pe_tup (pa_cons pe_int (pa_cons (pe_xf (U.xf 0 (by decide)) (U.no 0 (by decide)) hz.zc hf (pv 2)) pa_nil)))))
      (.cons ⟨rfl, by decide, .inl (U.gC 1 (by decide))⟩ (fun a oe cls d pn hz hf => pss_one (ps_ret (pe_tup (pa_cons pe_int (pa_cons (pe_xf (U.xf 1 (by decide)) (U.no 1 (by decide)) hz.zc hf (pv 2)) pa_nil)))))
      (.cons ⟨rfl, by decide, .inl (U.gC 2 (by decide))⟩ (fun a oe cls d pn hz hf => pss_one (ps_ret (pe_tup (pa_cons pe_int (pa_cons (pe_xf (U.xf 2 (by decide)) (U.no 2 (by decide)) hz.zc hf (pv 2)) pa_nil)))))
      (.cons ⟨rfl, by decide, .inl (U.gC 3 (by decide))⟩ (fun a oe cls d pn hz hf => pss_one (ps_ret (pe_tup (pa_cons pe_int (pa_cons (pe_xf (U.xf 3 (by decide)) (U.no 3 (by decide)) hz.zc hf (pv 2)) pa_nil)))))
      (.cons ⟨rfl, by decide, .inl (U.gC 4 (by decide))⟩ (fun a oe cls d pn hz hf => pss_one (ps_ret (pe_tup (pa_cons pe_int (pa_cons (pe_xf (U.xf 4 (by decide)) (U.no 4 (by decide)) hz.zc hf (pv 2)) pa_nil)))))
      (.cons ⟨rfl, by decide, .inl (U.gC 5 (by decide))⟩ (fun a oe cls d pn hz hf => pss_one (ps_ret (pe_tup (pa_cons pe_int (pa_cons (pe_xf (U.xf 5 (by decide)) (U.no 5 (by decide)) hz.zc hf (pv 2)) pa_nil)))))
      (.cons ⟨rfl, by decide, .inl (U.gC 6 (by decide))⟩ (fun a oe cls d pn hz hf => pss_one (ps_ret (pe_tup (pa_cons pe_int (pa_cons (pe_xf (U.xf 6 (by decide)) (U.no 6 (by decide)) hz.zc hf (pv 2)) pa_nil)))))
      (.cons ⟨rfl, by decide, .inl (U.gC 7 (by decide))⟩ (fun a oe cls d pn hz hf => pss_one (ps_ret (pe_tup (pa_cons pe_int (pa_cons (pe_xf (U.xf 7 (by decide)) (U.no 7 (by decide)) hz.zc hf (pv 2)) pa_nil)))))
      (.cons ⟨rfl, by decide, .inl (U.gC 8 (by decide))⟩ (fun a oe cls d pn hz hf => pss_one (ps_ret (pe_tup (pa_cons pe_int (pa_cons (pe_xf (U.xf 8 (by decide)) (U.no 8 (by decide)) hz.zc hf (pv 2)) pa_nil)))))
      (.cons ⟨rfl, by decide, .inl (U.gC 9 (by decide))⟩ (fun a oe cls d pn hz hf => pss_one (ps_ret (pe_tup (pa_cons pe_int (pa_cons (pe_xf (U.xf 9 (by decide)) (U.no 9 (by decide)) hz.zc hf (pv 2)) pa_nil)))))
      .nil)))))))))))
      (pss_one (ps_ret (pe_tup (pa_cons pe_int pa_nil)))), ?_⟩
    refine ⟨_, rfl, _, rfl, k, y, rfl, hk, ok, fun dd nd => ?_⟩
    -- in the suite: (kind, e's field)
    have fin : ∀ {G : Hp} {t : Addr}, G = upd H dd (.xd [(flE k, y)]) → G t = none → Q (.ref t) (upd G t (.tup [.int k, y])) := fun {G t} e nt => by
      subst e
      have t0 : H t = none := by
        by_cases z : t = dd
        · rw [z]; exact nd
        · rw [upd_ne z] at nt; exact nt
      refine go t _ (fun b o q => ?_) t0 upd_same
      rw [upd_ne (ne_of_none q t0), upd_ne (ne_of_none q nd)]
      exact q
    match k, hk, ok, go, @fin with
    | 0, hk, ok, go, fin =>
      refine ⟨true, U.exm 0 0 (by decide) (by decide), fun _ a na => ?_, fun z => (nomatch z)⟩
      exact ⟨_, rfl, rfl, rfl, dd, _, y, rfl, upd_same, rfl, (by show 2 ≤ sizeLine; decide), fun t nt => fin rfl nt⟩
    | 1, hk, ok, go, fin =>
      refine ⟨false, U.exm 0 1 (by decide) (by decide), fun z => (nomatch z), fun _ => ?_⟩
      refine ⟨true, U.exm 1 1 (by decide) (by decide), fun _ a na => ?_, fun z => (nomatch z)⟩
      exact ⟨_, rfl, rfl, rfl, dd, _, y, rfl, upd_same, rfl, (by show 2 ≤ sizeLine; decide), fun t nt => fin rfl nt⟩
    | 2, hk, ok, go, fin =>
      refine ⟨false, U.exm 0 2 (by decide) (by decide), fun z => (nomatch z), fun _ => ?_⟩
      refine ⟨false, U.exm 1 2 (by decide) (by decide), fun z => (nomatch z), fun _ => ?_⟩
      refine ⟨true, U.exm 2 2 (by decide) (by decide), fun _ a na => ?_, fun z => (nomatch z)⟩
      exact ⟨_, rfl, rfl, rfl, dd, _, y, rfl, upd_same, rfl, (by show 2 ≤ sizeLine; decide), fun t nt => fin rfl nt⟩
    | 3, hk, ok, go, fin =>
      refine ⟨false, U.exm 0 3 (by decide) (by decide), fun z => (nomatch z), fun _ => ?_⟩
      refine ⟨false, U.exm 1 3 (by decide) (by decide), fun z => (nomatch z), fun _ => ?_⟩
      refine ⟨false, U.exm 2 3 (by decide) (by decide), fun z => (nomatch z), fun _ => ?_⟩
      refine ⟨true, U.exm 3 3 (by decide) (by decide), fun _ a na => ?_, fun z => (nomatch z)⟩
      exact ⟨_, rfl, rfl, rfl, dd, _, y, rfl, upd_same, rfl, (by show 2 ≤ sizeLine; decide), fun t nt => fin rfl nt⟩
    | 4, hk, ok, go, fin =>
      refine ⟨false, U.exm 0 4 (by decide) (by decide), fun z => (nomatch z), fun _ => ?_⟩
      refine ⟨false, U.exm 1 4 (by decide) (by decide), fun z => (nomatch z), fun _ => ?_⟩
      refine ⟨false, U.exm 2 4 (by decide) (by decide), fun z => (nomatch z), fun _ => ?_⟩
      refine ⟨false, U.exm 3 4 (by decide) (by decide), fun z => (nomatch z), fun _ => ?_⟩
      refine ⟨true, U.exm 4 4 (by decide) (by decide), fun _ a na => ?_, fun z => (nomatch z)⟩
      exact ⟨_, rfl, rfl, rfl, dd, _, y, rfl, upd_same, rfl, (by show 2 ≤ sizeLine; decide), fun t nt => fin rfl nt⟩
    | 5, hk, ok, go, fin =>
      refine ⟨false, U.exm 0 5 (by decide) (by decide), fun z => (nomatch z), fun _ => ?_⟩
      refine ⟨false, U.exm 1 5 (by decide) (by decide), fun z => (nomatch z), fun _ => ?_⟩
      refine ⟨false, U.exm 2 5 (by decide) (by decide), fun z => (nomatch z), fun _ => ?_⟩
      refine ⟨false, U.exm 3 5 (by decide) (by decide), fun z => (nomatch z), fun _ => ?_⟩
      refine ⟨false, U.exm 4 5 (by decide) (by decide), fun z => (nomatch z), fun _ => ?_⟩
      refine ⟨true, U.exm 5 5 (by decide) (by decide), fun _ a na => ?_, fun z => (nomatch z)⟩
      exact ⟨_, rfl, rfl, rfl, dd, _, y, rfl, upd_same, rfl, (by show 2 ≤ sizeLine; decide), fun t nt => fin rfl nt⟩
    | 6, hk, ok, go, fin =>
      refine ⟨false, U.exm 0 6 (by decide) (by decide), fun z => (nomatch z), fun _ => ?_⟩
      refine ⟨false, U.exm 1 6 (by decide) (by decide), fun z => (nomatch z), fun _ => ?_⟩
      refine ⟨false, U.exm 2 6 (by decide) (by decide), fun z => (nomatch z), fun _ => ?_⟩
      refine ⟨false, U.exm 3 6 (by decide) (by decide), fun z => (nomatch z), fun _ => ?_⟩
      refine ⟨false, U.exm 4 6 (by decide) (by decide), fun z => (nomatch z), fun _ => ?_⟩
      refine ⟨false, U.exm 5 6 (by decide) (by decide), fun z => (nomatch z), fun _ => ?_⟩
      refine ⟨true, U.exm 6 6 (by decide) (by decide), fun _ a na => ?_, fun z => (nomatch z)⟩
      exact ⟨_, rfl, rfl, rfl, dd, _, y, rfl, upd_same, rfl, (by show 2 ≤ sizeLine; decide), fun t nt => fin rfl nt⟩
    | 7, hk, ok, go, fin =>
      refine ⟨false, U.exm 0 7 (by decide) (by decide), fun z => (nomatch z), fun _ => ?_⟩
      refine ⟨false, U.exm 1 7 (by decide) (by decide), fun z => (nomatch z), fun _ => ?_⟩
      refine ⟨false, U.exm 2 7 (by decide) (by decide), fun z => (nomatch z), fun _ => ?_⟩
      refine ⟨false, U.exm 3 7 (by decide) (by decide), fun z => (nomatch z), fun _ => ?_⟩
      refine ⟨false, U.exm 4 7 (by decide) (by decide), fun z => (nomatch z), fun _ => ?_⟩
      refine ⟨false, U.exm 5 7 (by decide) (by decide), fun z => (nomatch z), fun _ => ?_⟩
      refine ⟨false, U.exm 6 7 (by decide) (by decide), fun z => (nomatch z), fun _ => ?_⟩
      refine ⟨true, U.exm 7 7 (by decide) (by decide), fun _ a na => ?_, fun z => (nomatch z)⟩
      exact ⟨_, rfl, rfl, rfl, dd, _, y, rfl, upd_same, rfl, (by show 2 ≤ sizeLine; decide), fun t nt => fin rfl nt⟩
    | 8, hk, ok, go, fin =>
      refine ⟨false, U.exm 0 8 (by decide) (by decide), fun z => (nomatch z), fun _ => ?_⟩
      refine ⟨false, U.exm 1 8 (by decide) (by decide), fun z => (nomatch z), fun _ => ?_⟩
      refine ⟨false, U.exm 2 8 (by decide) (by decide), fun z => (nomatch z), fun _ => ?_⟩
      refine ⟨false, U.exm 3 8 (by decide) (by decide), fun z => (nomatch z), fun _ => ?_⟩
      refine ⟨false, U.exm 4 8 (by decide) (by decide), fun z => (nomatch z), fun _ => ?_⟩
      refine ⟨false, U.exm 5 8 (by decide) (by decide), fun z => (nomatch z), fun _ => ?_⟩
      refine ⟨false, U.exm 6 8 (by decide) (by decide), fun z => (nomatch z), fun _ => ?_⟩
      refine ⟨false, U.exm 7 8 (by decide) (by decide), fun z => (nomatch z), fun _ => ?_⟩
      refine ⟨true, U.exm 8 8 (by decide) (by decide), fun _ a na => ?_, fun z => (nomatch z)⟩
      exact ⟨_, rfl, rfl, rfl, dd, _, y, rfl, upd_same, rfl, (by show 2 ≤ sizeLine; decide), fun t nt => fin rfl nt⟩
    | 9, hk, ok, go, fin =>
      refine ⟨false, U.exm 0 9 (by decide) (by decide), fun z => (nomatch z), fun _ => ?_⟩
      refine ⟨false, U.exm 1 9 (by decide) (by decide), fun z => (nomatch z), fun _ => ?_⟩
      refine ⟨false, U.exm 2 9 (by decide) (by decide), fun z => (nomatch z), fun _ => ?_⟩
      refine ⟨false, U.exm 3 9 (by decide) (by decide), fun z => (nomatch z), fun _ => ?_⟩
      refine ⟨false, U.exm 4 9 (by decide) (by decide), fun z => (nomatch z), fun _ => ?_⟩
      refine ⟨false, U.exm 5 9 (by decide) (by decide), fun z => (nomatch z), fun _ => ?_⟩
      refine ⟨false, U.exm 6 9 (by decide) (by decide), fun z => (nomatch z), fun _ => ?_⟩
      refine ⟨false, U.exm 7 9 (by decide) (by decide), fun z => (nomatch z), fun _ => ?_⟩
      refine ⟨false, U.exm 8 9 (by decide) (by decide), fun z => (nomatch z), fun _ => ?_⟩
      refine ⟨true, U.exm 9 9 (by decide) (by decide), fun _ a na => ?_, fun z => (nomatch z)⟩
      exact ⟨_, rfl, rfl, rfl, dd, _, y, rfl, upd_same, rfl, (by show 2 ≤ sizeLine; decide), fun t nt => fin rfl nt⟩
    | (k + 10), hk, _, _, _ => exact absurd hk (by omega)
end
end K0E

set_option Elab.async false
set_option linter.all false
set_option maxRecDepth 100000
set_option maxHeartbeats 4000000
/-! The law asks a caught error for its classes. -/
namespace K0E
open PySem L2
/-- what isinstance says of an error of kind k, class by class -/
def bools (k : Nat) (i : Nat) : List V := (List.range i).map fun j => V.bl (decide (k = j))
theorem bools_succ (k i : Nat) : bools k (i + 1) = bools k i ++ [V.bl (decide (k = i))] := by
  unfold bools
  rw [List.range_succ, List.map_append]
  rfl
theorem same_bool (i k : Nat) : decide ((V.int (i : Int)) = V.int (k : Int)) = decide (k = i) := by
  by_cases h : k = i
  · subst h
    simp
  · have h2 : ¬ (V.int (i : Int) = V.int (k : Int)) := fun z => h (by injection z with z; omega)
    simp [h, h2]
def boolD (k : Nat) (i : Nat) : List PyData := (List.range i).map fun j => PyData.bool (decide (k = j))
theorem dp_bools {K : PySem.W.Frag} {H : Hp} (k : Nat) : ∀ l : List Nat, DpAll K H (l.map fun j => V.bl (decide (k = j))) (l.map fun j => PyData.bool (decide (k = j)))
  | [] => .nil
  | _ :: l => .cons (.bl _) (dp_bools k l)
theorem shaped_bools (k : Nat) (h : k < 10) : SeqAt.shaped (.list (boolD k 10)) = true := by
  match k, h with
  | 0, _ => decide +kernel
  | 1, _ => decide +kernel
  | 2, _ => decide +kernel
  | 3, _ => decide +kernel
  | 4, _ => decide +kernel
  | 5, _ => decide +kernel
  | 6, _ => decide +kernel
  | 7, _ => decide +kernel
  | 8, _ => decide +kernel
  | 9, _ => decide +kernel
  | (k + 10), h => exact absurd h (by omega)
theorem hot_suite {X : Cx} {a : Addr} {oe : Obj} {cls : Value} {d : Option Addr} {pn : List (Addr × Obj)} (hz : L2N.Zn cls d oe) (hf : ∃ vs, oe.data = .fields vs) : L2H.HotC (X.suite a ((a, oe) :: pn)) := by
  obtain ⟨vs, e⟩ := hf
  exact ⟨(a, oe), ⟨rfl, vs, e, hz.2.2 vs e⟩, List.mem_cons_self⟩
section
variable {P : Program} {w : World} {K : PySem.W.Frag} {mg : Str → Option Value} {base : Heap} {B fR : Addr} {C fI : Nat → Addr} {fd : Nat → FuncData}
/-- isinstance(e, the class of kind j) -/
def tIsi (K : PySem.W.Frag) (C : Nat → Addr) (a : Addr) (cls : Value) (d : Option Addr) (j : Nat) : TE := tCB (rErrIs K cls a d) (tCons (tVar 2) (tCons (tC (.ref (C j))) tNil))
def t_suite (K : PySem.W.Frag) (C : Nat → Addr) : Addr → Value → Option Addr → TS := fun a cls d =>
  tSeq (tAsg (tLst (tCons (tIsi K C a cls d 0) (tCons (tIsi K C a cls d 1) (tCons (tIsi K C a cls d 2) (tCons (tIsi K C a cls d 3) tNil))))) (gName 3))
  (tSeq (tAsg (tOp rCat (tVar 3) (tLst (tCons (tIsi K C a cls d 4) (tCons (tIsi K C a cls d 5) (tCons (tIsi K C a cls d 6) tNil))))) (gName 3))
  (tSeq (tAsg (tOp rCat (tVar 3) (tLst (tCons (tIsi K C a cls d 7) (tCons (tIsi K C a cls d 8) (tCons (tIsi K C a cls d 9) tNil))))) (gName 3))
  (tSeq (tIfS (tTest (tCB (rErrIsT K cls a d) (tCons (tVar 2) (tCons (tTup (tCons (tC (.ty "ValueError")) (tCons (tC (.ty "LookupError")) (tCons (tC (.ty "ArithmeticError")) tNil)))) tNil)))) (tRet (tC (.bl false))) tNext)
  (tRet (tOp (rEqD K) (tVar 3) (tHotLc (tCons (tC (.int 10)) tNil) (gName 4) (tOp rEq (tVar 4) (tVar 0)) [4]))))))
theorem scC : FnScope ["kind", "given", "e", "found", "k"] ["kind", "given"] (defScope sClasses) := ⟨rfl, rfl, rfl, by decide +kernel, rfl, by decide +kernel, by decide +kernel⟩
theorem isi_read {σ : St} {G : Hp} {a dd : Addr} {k j : Nat} {fs : List (Str × V)} {R : VK} (U : Errs P w K mg base B C fI fd) (hk : k < 10) (hj : j < 10) (hs : σ[2]? = some (some (.ref a))) (hd : G dd = some (.xd fs)) (go : R (.bl (decide (k = j))) G) :
    tIsi K C a (.ref (C k)) (some dd) j σ G R :=
  ⟨_, hs, C k, _, _, _, rfl, U.ask k hk, rfl, .own _, fun z e => by cases e; exact ⟨fs, hd⟩, U.kit j k hj hk, go⟩
theorem ok_classes {f : Addr} {fdk fdr : FuncData} (F : Fun K "_law_classes" "_law_classes" sClasses f fdk) (T : LawTxt P w K mg base B C fI fd fR) (GR : FnOk P w K mg base (L2N.CX P w) 3 fR fdr ["kind", "given"] (spRaise C)) (bR : Binds K fdr ["kind", "given"] []) :
    FnOk P w K mg base CX0 4 f fdk ["kind", "given"] spClasses := by
  refine F.ok scC (fun vs H Q E h => ?_) (fun cdv A outer s H vs Q E hr h => ?_)
  · obtain ⟨k, y, rfl, _⟩ := h
    rfl
  · obtain ⟨k, y, rfl, hk, ok, go⟩ := h
    have U := T.errs
    refine ⟨_, pss_cons (L2N.ps_try_as (i := 2) (ts := t_suite K C) (tb := fun W => tDrop (tCallS (spRaise C) (WE W) (tCons (tVar 0) (tCons (tVar 1) tNil)))) rfl rfl scC.nd rfl rfl ⟨rfl, by decide, .inl U.gB⟩ takes0N
      (fun W pn xe tk _ => pss_one (ps_expr (by exact (pe_callS GR hr rfl T.gR T.kR bR (fun σ => L2N.passAt tk σ) (by exact (pa_cons (pv 0) (pa_cons (pv 1) pa_nil)))))))
      (fun a oe cls d pn hz hf => pss_cons (ps_set (i := 3) scC.nd rfl (Or.inl rfl) (by exact (pe_lst (pa_cons (pe_callB (call_errIs hz.zc hf) (by rfl) T.isinst (by decide +kernel) (pa_cons (pv 2) (pa_cons (pe_glob (by rfl) (U.gC 0 (by decide)) (v := .ref (C 0)) (by exact rfl)) pa_nil))) (pa_cons (pe_callB (call_errIs hz.zc hf) (by rfl) T.isinst (by decide +kernel) (pa_cons (pv 2) (pa_cons (pe_glob (by rfl) (U.gC 1 (by decide)) (v := .ref (C 1)) (by exact rfl)) pa_nil))) (pa_cons (pe_callB (call_errIs hz.zc hf) (by rfl) T.isinst (by decide +kernel) (pa_cons (pv 2) (pa_cons (pe_glob (by rfl) (U.gC 2 (by decide)) (v := .ref (C 2)) (by exact rfl)) pa_nil))) (pa_cons (pe_callB (call_errIs hz.zc hf) (by rfl) T.isinst (by decide +kernel) (pa_cons (pv 2) (pa_cons (pe_glob (by rfl) (U.gC 3 (by decide)) (v := .ref (C 3)) (by exact rfl)) pa_nil))) pa_nil)))))))
        (pss_cons (ps_set (i := 3) scC.nd rfl (Or.inl rfl) (by exact (pe_op op_cat (pv 3) (pe_lst (pa_cons (pe_callB (call_errIs hz.zc hf) (by rfl) T.isinst (by decide +kernel) (pa_cons (pv 2) (pa_cons (pe_glob (by rfl) (U.gC 4 (by decide)) (v := .ref (C 4)) (by exact rfl)) pa_nil))) (pa_cons (pe_callB (call_errIs hz.zc hf) (by rfl) T.isinst (by decide +kernel) (pa_cons (pv 2) (pa_cons (pe_glob (by rfl) (U.gC 5 (by decide)) (v := .ref (C 5)) (by exact rfl)) pa_nil))) (pa_cons (pe_callB (call_errIs hz.zc hf) (by rfl) T.isinst (by decide +kernel) (pa_cons (pv 2) (pa_cons (pe_glob (by rfl) (U.gC 6 (by decide)) (v := .ref (C 6)) (by exact rfl)) pa_nil))) pa_nil)))))))
        (pss_cons (ps_set (i := 3) scC.nd rfl (Or.inl rfl) (by exact (pe_op op_cat (pv 3) (pe_lst (pa_cons (pe_callB (call_errIs hz.zc hf) (by rfl) T.isinst (by decide +kernel) (pa_cons (pv 2) (pa_cons (pe_glob (by rfl) (U.gC 7 (by decide)) (v := .ref (C 7)) (by exact rfl)) pa_nil))) (pa_cons (pe_callB (call_errIs hz.zc hf) (by rfl) T.isinst (by decide +kernel) (pa_cons (pv 2) (pa_cons (pe_glob (by rfl) (U.gC 8 (by decide)) (v := .ref (C 8)) (by exact rfl)) pa_nil))) (pa_cons (pe_callB (call_errIs hz.zc hf) (by rfl) T.isinst (by decide +kernel) (pa_cons (pv 2) (pa_cons (pe_glob (by rfl) (U.gC 9 (by decide)) (v := .ref (C 9)) (by exact rfl)) pa_nil))) pa_nil)))))))
        (pss_cons (ps_if (pt_val (by exact (pe_callB (call_errIsT hz.zc hf) (by rfl) T.isinst (by decide +kernel) (pa_cons (pv 2) (pa_cons (pe_tup (pa_cons (pe_bltn (v := .ty "ValueError") (u := .type "ValueError") (by rfl) T.vErr (by decide +kernel) (by exact rfl)) (pa_cons (pe_bltn (v := .ty "LookupError") (u := .type "LookupError") (by rfl) T.lErr (by decide +kernel) (by exact rfl)) (pa_cons (pe_bltn (v := .ty "ArithmeticError") (u := .type "ArithmeticError") (by rfl) T.aErr (by decide +kernel) (by exact rfl)) pa_nil)))) pa_nil))))) (pss_one (ps_ret pe_bl)) pss_nil)
        (pss_one (ps_ret (by exact (pe_cmpR (op_eqD (by exact hr.units)) (pv 3) (pe_hotLc (own := [("k", 4)]) (g := gName 4) (hot_suite hz hf) scC.nd (by rfl) T.range (pa_cons pe_int pa_nil)
          (blkOk_by (own := [("k", 4)]) (N := ["kind", "given", "e", "found", "k"]) (sc := defScope sClasses) (by decide +kernel)) (fun _ _ _ _ _ => pg_name (i := 4) scC.nd rfl (Or.inl rfl)) (fun _ _ _ _ _ => pe_cmpR op_eq (pv 4) (pv 0) (nomark _))) (nomark _)))))))))) (pss_one (ps_ret pe_bl)), ?_⟩
    refine ⟨_, rfl, _, rfl, k, y, rfl, hk, ok, fun dd nd => ⟨true, U.exB k hk, fun _ a na => ?_, fun z => (nomatch z)⟩⟩
    have up : ∀ {G : Hp} {p : Addr} {o : HO}, Same H G → G p = none → Same H (upd G p o) := fun sm hp b o q => (upd_ne (ne_of_none (sm b o q) hp)).trans (sm b o q)
    have keep : ∀ {G : Hp} {p q : Addr} {o u : HO}, G q = some u → G p = none → upd G p o q = some u := fun e hp => (upd_ne (ne_of_none e hp)).trans e
    have s0 : Same H (upd H dd (.xd [(flE k, y)])) := up (fun _ _ q => q) nd
    have d0 : upd H dd (.xd [(flE k, y)]) dd = some (.xd [(flE k, y)]) := upd_same
    generalize upd H dd (.xd [(flE k, y)]) = G at s0 d0
    refine isi_read U hk (by decide) rfl d0 (isi_read U hk (by decide) rfl d0 (isi_read U hk (by decide) rfl d0 (isi_read U hk (by decide) rfl d0 ⟨by show 4 ≤ sizeLine; decide, fun p1 h1 => ?_⟩)))
    have d1 := keep (o := .lst [V.bl (decide (k = 0)), V.bl (decide (k = 1)), V.bl (decide (k = 2)), V.bl (decide (k = 3))]) d0 h1
    refine ⟨_, rfl, isi_read U hk (by decide) rfl d1 (isi_read U hk (by decide) rfl d1 (isi_read U hk (by decide) rfl d1 ⟨by show 3 ≤ sizeLine; decide, fun p2 h2 => ?_⟩))⟩
    have d2 := keep (o := .lst [V.bl (decide (k = 4)), V.bl (decide (k = 5)), V.bl (decide (k = 6))]) d1 h2
    refine ⟨p1, p2, _, _, rfl, rfl, keep upd_same h2, upd_same, by show 7 ≤ sizeLine; decide, fun p3 h3 => ?_⟩
    have d3 := keep (o := .lst [V.bl (decide (k = 0)), V.bl (decide (k = 1)), V.bl (decide (k = 2)), V.bl (decide (k = 3)), V.bl (decide (k = 4)), V.bl (decide (k = 5)), V.bl (decide (k = 6))]) d2 h3
    refine ⟨_, rfl, isi_read U hk (by decide) rfl d3 (isi_read U hk (by decide) rfl d3 (isi_read U hk (by decide) rfl d3 ⟨by show 3 ≤ sizeLine; decide, fun p4 h4 => ?_⟩))⟩
    have d4 := keep (o := .lst [V.bl (decide (k = 7)), V.bl (decide (k = 8)), V.bl (decide (k = 9))]) d3 h4
    refine ⟨p3, p4, _, _, rfl, rfl, keep upd_same h4, upd_same, by show 10 ≤ sizeLine; decide, fun p5 h5 => ?_⟩
    have d5 := keep (o := .lst (bools k 10)) d4 h5
    have s5 : Same H (upd (upd (upd (upd (upd G p1 (.lst [V.bl (decide (k = 0)), V.bl (decide (k = 1)), V.bl (decide (k = 2)), V.bl (decide (k = 3))])) p2 (.lst [V.bl (decide (k = 4)), V.bl (decide (k = 5)), V.bl (decide (k = 6))])) p3 (.lst [V.bl (decide (k = 0)), V.bl (decide (k = 1)), V.bl (decide (k = 2)), V.bl (decide (k = 3)), V.bl (decide (k = 4)), V.bl (decide (k = 5)), V.bl (decide (k = 6))])) p4 (.lst [V.bl (decide (k = 7)), V.bl (decide (k = 8)), V.bl (decide (k = 9))])) p5 (.lst (bools k 10))) := up (up (up (up (up s0 h1) h2) h3) h4) h5
    have l5 : (upd (upd (upd (upd (upd G p1 (.lst [V.bl (decide (k = 0)), V.bl (decide (k = 1)), V.bl (decide (k = 2)), V.bl (decide (k = 3))])) p2 (.lst [V.bl (decide (k = 4)), V.bl (decide (k = 5)), V.bl (decide (k = 6))])) p3 (.lst [V.bl (decide (k = 0)), V.bl (decide (k = 1)), V.bl (decide (k = 2)), V.bl (decide (k = 3)), V.bl (decide (k = 4)), V.bl (decide (k = 5)), V.bl (decide (k = 6))])) p4 (.lst [V.bl (decide (k = 7)), V.bl (decide (k = 8)), V.bl (decide (k = 9))])) p5 (.lst (bools k 10))) p5 = some (.lst (bools k 10)) := upd_same
    refine (fun (q : ∀ G5 : Hp, G5 dd = some (.xd [(flE k, y)]) → Same H G5 → G5 p5 = some (.lst (bools k 10)) → _) => q _ d5 s5 l5) ?_
    clear d5 s5 l5
    intro G5 d5 s5 l5
    refine ⟨_, rfl, by show 3 ≤ sizeLine; decide, fun tp ht => ?_⟩
    refine ⟨C k, tp, _, _, false, rfl, U.ask k hk, rfl, upd_same, .cons (.ty _) (.cons (.ty _) (.cons (.ty _) .nil)), fun z e => by cases e; exact ⟨_, keep d5 ht⟩, U.kiA k hk, _, rfl, ifN rfl ?_⟩
    have s6 := up (o := .tup [.ty "ValueError", .ty "LookupError", .ty "ArithmeticError"]) s5 ht
    have l6 := keep (o := .tup [.ty "ValueError", .ty "LookupError", .ty "ArithmeticError"]) l5 ht
    refine ⟨_, rfl, 10, rfl, by decide, fun D hD => ?_⟩
    refine ⟨fun i H' => Same H H' ∧ H' p5 = some (.lst (bools k 10)) ∧ H' D = some (.lst (bools k i)), ⟨up s6 hD, keep l6 hD, upd_same⟩, fun i H' hi ⟨sm, lm, dm⟩ => ⟨rfl, _, rfl, _, rfl, rfl, _, dm, ?_, ?_, ?_, ?_⟩, fun H' ⟨sm, lm, dm⟩ => ?_⟩
    · unfold bools
      rw [List.length_map, List.length_range, sizeLine_eq]
      omega
    · exact fun b o q => (upd_ne (ne_of_none (s6 b o q) hD)).trans (sm b o q)
    · exact (upd_ne (ne_of_none l6 hD)).trans lm
    · rw [upd_same, same_bool, bools_succ]
    · refine ⟨.list (boolD k 10), .list (boolD k 10), .lst (SqL.of lm) (dp_bools k (List.range 10)), .lst (SqL.of dm) (dp_bools k (List.range 10)), shaped_bools k hk, shaped_bools k hk, ?_⟩
      show Q (V.bl (PyData.eqv _ _)) _
      rw [SeqAt.eqv_refl _ (SeqAt.canLay_of_shaped (shaped_bools k hk))]
      exact go _ sm
end
end K0E

set_option Elab.async false
set_option linter.all false
set_option maxRecDepth 100000
set_option maxHeartbeats 4000000
/-! The law's own comparison of what the program told with what is due. -/
namespace K0S
open PySem L2
abbrev sSame : Stmt := PySem.Challenge.pw_figurehold_k00_errors.main.body.getD 17 (.Pass ⟨0, 0, 0, 0⟩)
/-- x and y hold the same, at most n deep -/
inductive Alike (H : Hp) : Nat → V → V → Prop
  | non (n : Nat) : Alike H n .non .non
  | bl (n : Nat) (b : Bool) : Alike H n (.bl b) (.bl b)
  | int (n : Nat) (i : Int) : Alike H n (.int i) (.int i)
  | str (n : Nat) (x : Str) : Alike H n (.str x) (.str x)
  | tup {n : Nat} {p q : Addr} {xs ys : List V} (hp : H p = some (.tup xs)) (hq : H q = some (.tup ys)) (l : xs.length = ys.length) (s : xs.length ≤ sizeLine) (h : ∀ (i : Nat) (x y : V), xs[i]? = some x → ys[i]? = some y → Alike H n x y) : Alike H (n + 1) (.ref p) (.ref q)
  | lst {n : Nat} {p q : Addr} {xs ys : List V} (hp : H p = some (.lst xs)) (hq : H q = some (.lst ys)) (l : xs.length = ys.length) (s : xs.length ≤ sizeLine) (h : ∀ (i : Nat) (x y : V), xs[i]? = some x → ys[i]? = some y → Alike H n x y) : Alike H (n + 1) (.ref p) (.ref q)
theorem Alike.up {H H' : Hp} (sm : Same H H') : ∀ {n : Nat} {x y : V}, Alike H n x y → Alike H' n x y := by
  intro n x y h
  induction h with
  | non n => exact .non n
  | bl n b => exact .bl n b
  | int n i => exact .int n i
  | str n x => exact .str n x
  | tup hp hq l s _ ih => exact .tup (sm _ _ hp) (sm _ _ hq) l s ih
  | lst hp hq l s _ ih => exact .lst (sm _ _ hp) (sm _ _ hq) l s ih
def spSame (n : Nat) : Sp := fun vs H Q _ => ∃ x y : V, vs = [x, y] ∧ Alike H n x y ∧ ∀ H', Same H H' → Q (.bl true) H'
structure SameTxt (K : PySem.W.Frag) (mg : Str → Option Value) (fS : Addr) : Prop where
  isinst : mg "isinstance" = none
  tuple : mg "tuple" = none
  list : mg "list" = none
  str : mg "str" = none
  bool : mg "bool" = none
  int : mg "int" = none
  len : mg "len" = none
  all : mg "all" = none
  range : mg "range" = none
  gS : mg "_law_same" = some (.ref fS)
  kS : PySem.W.keepIn K (.ref fS) = true
theorem ifY {b : Bool} {A B : Prop} (e : b = true) (h : A) : if b = true then A else B := by rw [if_pos e]; exact h
theorem ifN {b : Bool} {A B : Prop} (e : b = false) (h : B) : if b = true then A else B := by rw [e]; exact h
def tI (K : PySem.W.Frag) (i : Nat) (T : String) : TE := tCB (rIsi K) (tCons (tVar i) (tCons (tC (.ty T)) tNil))
theorem isi {K : PySem.W.Frag} {σ : St} {H : Hp} {i : Nat} {a T : String} {x : V} {b : Bool} {R : VK} (hs : σ[i]? = some (some x)) (ty : TyOf K H x (.type a)) (k : kitB a T = some b) (go : R (.bl b) H) : tI K i T σ H R :=
  ⟨x, hs, x, .ty T, .type a, .type T, b, rfl, .ty T, .base ty, kit_ty k, go⟩
section
variable {P : Program} {w : World} {K : PySem.W.Frag} {mg : Str → Option Value} {base : Heap} {fS : Addr}
theorem scS : FnScope ["actual", "due", "k"] ["actual", "due"] (defScope sSame) := ⟨rfl, rfl, rfl, by decide +kernel, rfl, by decide +kernel, by decide +kernel⟩

def rIs : R2 := fun x y H Q => y = .non ∧ Q (.bl (decide (x = .non))) H
def tTail (K : PySem.W.Frag) : TS := tSeq (tIfS (tTest (tOp rIs (tVar 1) (tC .non))) (tRet (tOp rIs (tVar 0) (tC .non))) tNext) (tSeq (tIfS (tTest (tI K 1 "str")) (tRet (tAndV (tI K 0 "str") (tOp rEq (tVar 0) (tVar 1)))) tNext) (tSeq (tIfS (tTest (tI K 1 "bool")) (tRet (tAndV (tI K 0 "bool") (tOp rEq (tVar 0) (tVar 1)))) tNext)
      (tRet (tAndV (tI K 0 "int") (tAndV (tNotV (tI K 0 "bool")) (tOp rEq (tVar 0) (tVar 1)))))))
/-- the four kinds without parts -/
theorem leaf {σ : St} {H : Hp} {D : Ends} {x y : V} {n : Nat} (al : Alike H n x y) (h0 : σ[0]? = some (some x)) (h1 : σ[1]? = some (some y)) (nt : ∀ p, y ≠ .ref p) (go : D.rt (.bl true) H) : tTail K D σ H := by
  cases al with
  | non n => exact ⟨_, h1, rfl, _, rfl, ifY (by decide) ⟨_, h0, rfl, go⟩⟩
  | str n z =>
    refine ⟨_, h1, rfl, _, rfl, ifN (by simp) ?_⟩
    refine isi h1 (.str z) (by decide +kernel) ⟨_, rfl, ifY rfl ?_⟩
    refine isi h0 (.str z) (by decide +kernel) ⟨true, rfl, ifY rfl ⟨_, h0, _, h1, rfl, ?_⟩⟩
    rw [decide_eq_true (rfl : V.str z = V.str z)]
    exact go
  | bl n z =>
    refine ⟨_, h1, rfl, _, rfl, ifN (by simp) ?_⟩
    refine isi h1 (.bl z) (by decide +kernel) ⟨_, rfl, ifN rfl ?_⟩
    refine isi h1 (.bl z) (by decide +kernel) ⟨_, rfl, ifY rfl ?_⟩
    refine isi h0 (.bl z) (by decide +kernel) ⟨true, rfl, ifY rfl ⟨_, h0, _, h1, rfl, ?_⟩⟩
    rw [decide_eq_true (rfl : V.bl z = V.bl z)]
    exact go
  | int n z =>
    refine ⟨_, h1, rfl, _, rfl, ifN (by simp) ?_⟩
    refine isi h1 (.int z) (by decide +kernel) ⟨_, rfl, ifN rfl ?_⟩
    refine isi h1 (.int z) (by decide +kernel) ⟨_, rfl, ifN rfl ?_⟩
    refine isi h0 (.int z) (by decide +kernel) ⟨true, rfl, ifY rfl ?_⟩
    refine isi h0 (.int z) (by decide +kernel) ⟨false, rfl, true, rfl, ifY rfl ⟨_, h0, _, h1, rfl, ?_⟩⟩
    rw [decide_eq_true (rfl : V.int z = V.int z)]
    exact go
  | tup _ _ _ _ _ => exact absurd rfl (nt _)
  | lst _ _ _ _ _ => exact absurd rfl (nt _)
theorem all_rep : ∀ m : Nat, (List.replicate m true).all id = true
  | 0 => rfl
  | m + 1 => by rw [List.replicate_succ, List.all_cons, all_rep m]; rfl
/-- which kinds have no parts -/
theorem Alike.ty {H : Hp} {n : Nat} {x y : V} (al : Alike H n x y) (nt : ∀ p, y ≠ .ref p) : ∃ a, TyOf K H y (.type a) ∧ kitB a "tuple" = some false ∧ kitB a "list" = some false := by
  cases al with
  | non n => exact ⟨_, .non, by decide +kernel, by decide +kernel⟩
  | str n z => exact ⟨_, .str z, by decide +kernel, by decide +kernel⟩
  | bl n z => exact ⟨_, .bl z, by decide +kernel, by decide +kernel⟩
  | int n z => exact ⟨_, .int z, by decide +kernel, by decide +kernel⟩
  | tup _ _ _ _ _ => exact absurd rfl (nt _)
  | lst _ _ _ _ _ => exact absurd rfl (nt _)
theorem ok_same0 {fd : FuncData} (F : Fun K "_law_same" "_law_same" sSame fS fd) (T : SameTxt K mg fS) : FnOk P w K mg base CX0 1 fS fd ["actual", "due"] (spSame 0) := by
  refine F.ok scS (fun vs H Q E h => ?_) (fun cdv A outer s H vs Q E hr h => ?_)
  · obtain ⟨x, y, rfl, _⟩ := h
    rfl
  · obtain ⟨x, y, rfl, al, go⟩ := h
    have nt : ∀ p, y ≠ .ref p := fun p z => by
      subst z
      cases al
    refine ⟨_, pss_cons (ps_if (PW.pt (pw_or (pt_val (pe_callB call_isi (by rfl) T.isinst (by decide +kernel) (pa_cons (pv 1) (pa_cons (pe_bltn (v := .ty "tuple") (u := .type "tuple") (by rfl) T.tuple (by decide +kernel) (by exact rfl)) pa_nil)))) (pw_or1 (pt_val (pe_callB call_isi (by rfl) T.isinst (by decide +kernel) (pa_cons (pv 1) (pa_cons (pe_bltn (v := .ty "list") (u := .type "list") (by rfl) T.list (by decide +kernel) (by exact rfl)) pa_nil))))))) pss_never pss_nil)
       (pss_cons (ps_if (pt_cmpR op_isN (pv 1) pe_non (nomark _)) (pss_one (ps_ret (pe_cmpR op_isN (pv 0) pe_non (nomark _)))) pss_nil)
      (pss_cons (ps_if (pt_val (pe_callB call_isi (by rfl) T.isinst (by decide +kernel) (pa_cons (pv 1) (pa_cons (pe_bltn (v := .ty "str") (u := .type "str") (by rfl) T.str (by decide +kernel) (by exact rfl)) pa_nil)))) (pss_one (ps_ret (pe_and (pe_callB call_isi (by rfl) T.isinst (by decide +kernel) (pa_cons (pv 0) (pa_cons (pe_bltn (v := .ty "str") (u := .type "str") (by rfl) T.str (by decide +kernel) (by exact rfl)) pa_nil))) (pe_one (pe_cmpR op_eq (pv 0) (pv 1) (nomark _)))))) pss_nil)
      (pss_cons (ps_if (pt_val (pe_callB call_isi (by rfl) T.isinst (by decide +kernel) (pa_cons (pv 1) (pa_cons (pe_bltn (v := .ty "bool") (u := .type "bool") (by rfl) T.bool (by decide +kernel) (by exact rfl)) pa_nil)))) (pss_one (ps_ret (pe_and (pe_callB call_isi (by rfl) T.isinst (by decide +kernel) (pa_cons (pv 0) (pa_cons (pe_bltn (v := .ty "bool") (u := .type "bool") (by rfl) T.bool (by decide +kernel) (by exact rfl)) pa_nil))) (pe_one (pe_cmpR op_eq (pv 0) (pv 1) (nomark _)))))) pss_nil)
      (pss_one (ps_ret (pe_and (pe_callB call_isi (by rfl) T.isinst (by decide +kernel) (pa_cons (pv 0) (pa_cons (pe_bltn (v := .ty "int") (u := .type "int") (by rfl) T.int (by decide +kernel) (by exact rfl)) pa_nil))) (pe_and (pe_not (pe_callB call_isi (by rfl) T.isinst (by decide +kernel) (pa_cons (pv 0) (pa_cons (pe_bltn (v := .ty "bool") (u := .type "bool") (by rfl) T.bool (by decide +kernel) (by exact rfl)) pa_nil)))) (pe_one (pe_cmpR op_eq (pv 0) (pv 1) (nomark _)))))))))), ?_⟩
    obtain ⟨a, ty, k1, k2⟩ := al.ty (K := K) nt
    refine isi (K := K) rfl ty k1 ⟨_, rfl, ifN rfl ?_⟩
    refine isi (K := K) rfl ty k2 ⟨_, rfl, ifN rfl ?_⟩
    show tTail K _ _ H
    exact leaf (K := K) al rfl rfl nt (go H fun _ _ q => q)
theorem ok_sameS {n k : Nat} {fd : FuncData} (F : Fun K "_law_same" "_law_same" sSame fS fd) (bS : Binds K fd ["actual", "due"] []) (T : SameTxt K mg fS) (G : FnOk P w K mg base CX0 k fS fd ["actual", "due"] (spSame n)) : FnOk P w K mg base CX0 (k + 1) fS fd ["actual", "due"] (spSame (n + 1)) := by
  refine F.ok scS (fun vs H Q E h => ?_) (fun cdv A outer s H vs Q E hr h => ?_)
  · obtain ⟨x, y, rfl, _⟩ := h
    rfl
  · obtain ⟨x, y, rfl, al, go⟩ := h
    refine ⟨_, pss_cons (ps_if (PW.pt (pw_or (pt_val (pe_callB call_isi (by rfl) T.isinst (by decide +kernel) (pa_cons (pv 1) (pa_cons (pe_bltn (v := .ty "tuple") (u := .type "tuple") (by rfl) T.tuple (by decide +kernel) (by exact rfl)) pa_nil)))) (pw_or1 (pt_val (pe_callB call_isi (by rfl) T.isinst (by decide +kernel) (pa_cons (pv 1) (pa_cons (pe_bltn (v := .ty "list") (u := .type "list") (by rfl) T.list (by decide +kernel) (by exact rfl)) pa_nil))))))) (pss_cons (ps_if (PW.pt (pw_or (pt_cmpR op_ne (pe_callB call_isi (by rfl) T.isinst (by decide +kernel) (pa_cons (pv 1) (pa_cons (pe_bltn (v := .ty "tuple") (u := .type "tuple") (by rfl) T.tuple (by decide +kernel) (by exact rfl)) pa_nil))) (pe_callB call_isi (by rfl) T.isinst (by decide +kernel) (pa_cons (pv 0) (pa_cons (pe_bltn (v := .ty "tuple") (u := .type "tuple") (by rfl) T.tuple (by decide +kernel) (by exact rfl)) pa_nil))) (nomark _)) (pw_or1 (pt_cmpR op_ne (pe_callB call_isi (by rfl) T.isinst (by decide +kernel) (pa_cons (pv 1) (pa_cons (pe_bltn (v := .ty "list") (u := .type "list") (by rfl) T.list (by decide +kernel) (by exact rfl)) pa_nil))) (pe_callB call_isi (by rfl) T.isinst (by decide +kernel) (pa_cons (pv 0) (pa_cons (pe_bltn (v := .ty "list") (u := .type "list") (by rfl) T.list (by decide +kernel) (by exact rfl)) pa_nil))) (nomark _))))) (pss_one (ps_ret pe_bl)) pss_nil)
        (pss_one (ps_ret (pe_and (pe_cmpR op_eq (pe_callB call_len_seq (by rfl) T.len PySem.boot_len (pa_cons (pv 0) pa_nil)) (pe_callB call_len_seq (by rfl) T.len PySem.boot_len (pa_cons (pv 1) pa_nil)) (nomark _))
          (pe_one (pe_callB (cr_all rfl) (by rfl) T.all (by decide +kernel) (pa_cons (pe_lc (own := [("k", 2)]) (g := gName 2) rfl scS.nd (pi_range1 (by rfl) T.range (pa_cons (pe_callB call_len_seq (by rfl) T.len PySem.boot_len (pa_cons (pv 1) pa_nil)) pa_nil))
            (blkOk_by (own := [("k", 2)]) (N := ["actual", "due", "k"]) (sc := defScope sSame) (by decide +kernel)) (fun _ _ _ _ _ => pg_name (i := 2) scS.nd rfl (Or.inl rfl)) (fun _ _ _ _ _ => pts_nil)
            (fun _ _ _ _ _ => pe_call G hr (by rfl) T.gS T.kS bS .nil pass0 (pa_cons (pe_ix (show IxR _ (rIx K) from ix_seq) (pv 0) (pv 2) (fun _ _ => rfl)) (pa_cons (pe_ix (show IxR _ (rIx K) from ix_seq) (pv 1) (pv 2) (fun _ _ => rfl)) pa_nil)))) pa_nil))))))) pss_nil)
       (pss_cons (ps_if (pt_cmpR op_isN (pv 1) pe_non (nomark _)) (pss_one (ps_ret (pe_cmpR op_isN (pv 0) pe_non (nomark _)))) pss_nil)
      (pss_cons (ps_if (pt_val (pe_callB call_isi (by rfl) T.isinst (by decide +kernel) (pa_cons (pv 1) (pa_cons (pe_bltn (v := .ty "str") (u := .type "str") (by rfl) T.str (by decide +kernel) (by exact rfl)) pa_nil)))) (pss_one (ps_ret (pe_and (pe_callB call_isi (by rfl) T.isinst (by decide +kernel) (pa_cons (pv 0) (pa_cons (pe_bltn (v := .ty "str") (u := .type "str") (by rfl) T.str (by decide +kernel) (by exact rfl)) pa_nil))) (pe_one (pe_cmpR op_eq (pv 0) (pv 1) (nomark _)))))) pss_nil)
      (pss_cons (ps_if (pt_val (pe_callB call_isi (by rfl) T.isinst (by decide +kernel) (pa_cons (pv 1) (pa_cons (pe_bltn (v := .ty "bool") (u := .type "bool") (by rfl) T.bool (by decide +kernel) (by exact rfl)) pa_nil)))) (pss_one (ps_ret (pe_and (pe_callB call_isi (by rfl) T.isinst (by decide +kernel) (pa_cons (pv 0) (pa_cons (pe_bltn (v := .ty "bool") (u := .type "bool") (by rfl) T.bool (by decide +kernel) (by exact rfl)) pa_nil))) (pe_one (pe_cmpR op_eq (pv 0) (pv 1) (nomark _)))))) pss_nil)
      (pss_one (ps_ret (pe_and (pe_callB call_isi (by rfl) T.isinst (by decide +kernel) (pa_cons (pv 0) (pa_cons (pe_bltn (v := .ty "int") (u := .type "int") (by rfl) T.int (by decide +kernel) (by exact rfl)) pa_nil))) (pe_and (pe_not (pe_callB call_isi (by rfl) T.isinst (by decide +kernel) (pa_cons (pv 0) (pa_cons (pe_bltn (v := .ty "bool") (u := .type "bool") (by rfl) T.bool (by decide +kernel) (by exact rfl)) pa_nil)))) (pe_one (pe_cmpR op_eq (pv 0) (pv 1) (nomark _)))))))))), ?_⟩
    cases al with
    | tup hp hq l s h =>
      rename_i p q xs ys
      refine isi (K := K) (b := true) rfl (.tup hq) (by decide +kernel) ⟨_, rfl, ifY rfl ?_⟩
      refine isi (K := K) (b := true) rfl (.tup hq) (by decide +kernel) (isi (K := K) (b := true) rfl (.tup hp) (by decide +kernel) ⟨rfl, _, rfl, ifN (by decide) ?_⟩)
      refine isi (K := K) (b := false) rfl (.tup hq) (by decide +kernel) (isi (K := K) (b := false) rfl (.tup hp) (by decide +kernel) ⟨rfl, _, rfl, ifN (by decide) ?_⟩)
      refine ⟨_, rfl, p, xs, rfl, .inr (SqT.of hp), _, rfl, q, ys, rfl, .inr (SqT.of hq), rfl, true, by rw [l]; simp, ifY rfl ?_⟩
      refine ⟨_, rfl, q, ys, rfl, .inr (SqT.of hq), (ys.length : Int), rfl, by omega, by rw [sizeLine_eq] at s; omega, fun D hD => ?_⟩
      refine lc_range (lo := 0) (n := ys.length) (fun i G => Same H G ∧ G D = some (.lst (List.replicate i (V.bl true)))) ⟨fun b o e => (upd_ne (ne_of_none e hD)).trans e, upd_same⟩ (fun i G hi ⟨sm, hd⟩ => ⟨rfl, ?_⟩) (fun G ⟨sm, hd⟩ => ?_)
      · have hx : xs[i]? = some (xs[i]'(by omega)) := by simp
        have hy : ys[i]? = some ys[i] := by simp
        have len : i < sizeLine := by omega
        refine ⟨_, rfl, _, rfl, .inr (.inl ⟨p, xs, _, _, rfl, rfl, SqT.of (sm _ _ hp), at_of (Int.zero_add _) hx, _, rfl, _, rfl, .inr (.inl ⟨q, ys, _, _, rfl, rfl, SqT.of (sm _ _ hq), at_of (Int.zero_add _) hy, _, _, rfl, (h i _ _ hx hy).up sm, fun G2 sm2 => ⟨_, sm2 _ _ hd, by rw [List.length_replicate]; exact len, fun b o e => (upd_ne (ne_of_none e hD)).trans (sm2 _ _ (sm _ _ e)), ?_⟩⟩)⟩)⟩
        rw [upd_same, List.replicate_succ']
      · refine ⟨D, List.replicate ys.length true, rfl, SqL.of (by rw [List.map_replicate]; exact hd), ?_⟩
        rw [all_rep]
        exact go G sm
    | lst hp hq l s h =>
      rename_i p q xs ys
      refine isi (K := K) (b := false) rfl (.lst hq) (by decide +kernel) ⟨_, rfl, ifN rfl ?_⟩
      refine isi (K := K) (b := true) rfl (.lst hq) (by decide +kernel) ⟨_, rfl, ifY rfl ?_⟩
      refine isi (K := K) (b := false) rfl (.lst hq) (by decide +kernel) (isi (K := K) (b := false) rfl (.lst hp) (by decide +kernel) ⟨rfl, _, rfl, ifN (by decide) ?_⟩)
      refine isi (K := K) (b := true) rfl (.lst hq) (by decide +kernel) (isi (K := K) (b := true) rfl (.lst hp) (by decide +kernel) ⟨rfl, _, rfl, ifN (by decide) ?_⟩)
      refine ⟨_, rfl, p, xs, rfl, .inl (SqL.of hp), _, rfl, q, ys, rfl, .inl (SqL.of hq), rfl, true, by rw [l]; simp, ifY rfl ?_⟩
      refine ⟨_, rfl, q, ys, rfl, .inl (SqL.of hq), (ys.length : Int), rfl, by omega, by rw [sizeLine_eq] at s; omega, fun D hD => ?_⟩
      refine lc_range (lo := 0) (n := ys.length) (fun i G => Same H G ∧ G D = some (.lst (List.replicate i (V.bl true)))) ⟨fun b o e => (upd_ne (ne_of_none e hD)).trans e, upd_same⟩ (fun i G hi ⟨sm, hd⟩ => ⟨rfl, ?_⟩) (fun G ⟨sm, hd⟩ => ?_)
      · have hx : xs[i]? = some (xs[i]'(by omega)) := by simp
        have hy : ys[i]? = some ys[i] := by simp
        have len : i < sizeLine := by omega
        refine ⟨_, rfl, _, rfl, .inl (⟨p, xs, _, _, rfl, rfl, SqL.of (sm _ _ hp), at_of (Int.zero_add _) hx, _, rfl, _, rfl, .inl (⟨q, ys, _, _, rfl, rfl, SqL.of (sm _ _ hq), at_of (Int.zero_add _) hy, _, _, rfl, (h i _ _ hx hy).up sm, fun G2 sm2 => ⟨_, sm2 _ _ hd, by rw [List.length_replicate]; exact len, fun b o e => (upd_ne (ne_of_none e hD)).trans (sm2 _ _ (sm _ _ e)), ?_⟩⟩)⟩)⟩
        rw [upd_same, List.replicate_succ']
      · refine ⟨D, List.replicate ys.length true, rfl, SqL.of (by rw [List.map_replicate]; exact hd), ?_⟩
        rw [all_rep]
        exact go G sm
    | non => 
      obtain ⟨a, ty, k1, k2⟩ := (Alike.non (n + 1)).ty (K := K) (H := H) (fun p z => by cases z)
      refine isi (K := K) rfl ty k1 ⟨_, rfl, ifN rfl ?_⟩
      refine isi (K := K) rfl ty k2 ⟨_, rfl, ifN rfl ?_⟩
      show tTail K _ _ H
      exact leaf (K := K) (H := H) (Alike.non (n + 1)) rfl rfl (fun p z => by cases z) (go H fun _ _ q => q)
    | bl _ b => 
      obtain ⟨a, ty, k1, k2⟩ := (Alike.bl (n + 1) b).ty (K := K) (H := H) (fun p z => by cases z)
      refine isi (K := K) rfl ty k1 ⟨_, rfl, ifN rfl ?_⟩
      refine isi (K := K) rfl ty k2 ⟨_, rfl, ifN rfl ?_⟩
      show tTail K _ _ H
      exact leaf (K := K) (H := H) (Alike.bl (n + 1) b) rfl rfl (fun p z => by cases z) (go H fun _ _ q => q)
    | int _ i => 
      obtain ⟨a, ty, k1, k2⟩ := (Alike.int (n + 1) i).ty (K := K) (H := H) (fun p z => by cases z)
      refine isi (K := K) rfl ty k1 ⟨_, rfl, ifN rfl ?_⟩
      refine isi (K := K) rfl ty k2 ⟨_, rfl, ifN rfl ?_⟩
      show tTail K _ _ H
      exact leaf (K := K) (H := H) (Alike.int (n + 1) i) rfl rfl (fun p z => by cases z) (go H fun _ _ q => q)
    | str _ z => 
      obtain ⟨a, ty, k1, k2⟩ := (Alike.str (n + 1) z).ty (K := K) (H := H) (fun p z => by cases z)
      refine isi (K := K) rfl ty k1 ⟨_, rfl, ifN rfl ?_⟩
      refine isi (K := K) rfl ty k2 ⟨_, rfl, ifN rfl ?_⟩
      show tTail K _ _ H
      exact leaf (K := K) (H := H) (Alike.str (n + 1) z) rfl rfl (fun p z => by cases z) (go H fun _ _ q => q)
end
end K0S

set_option Elab.async false
set_option linter.all false
set_option maxRecDepth 100000
set_option maxHeartbeats 4000000
/-! What is given, and the law. -/
namespace K0E
open PySem L2 K0 K0S
abbrev sGiven : Stmt := top 21
abbrev sLaw : Stmt := top 22
/-- all but what stands at p stays -/
def But (p : Addr) (H G : Hp) : Prop := ∀ b o, b ≠ p → H b = some o → G b = some o
theorem But.refl {p : Addr} {H : Hp} : But p H H := fun _ _ _ q => q
theorem But.flow {p : Addr} {H G : Hp} {o : HO} (h : But p H G) : But p H (upd G p o) := fun b u n q => (upd_ne n).trans (h b u n q)
theorem But.new {p q : Addr} {H G : Hp} {o : HO} (h : But p H G) (n : G q = none) : But p H (upd G q o) := fun b u m z => (upd_ne (ne_of_none (h b u m z) n)).trans (h b u m z)
def spGiven : Sp := fun vs H Q _ => ∃ (p : Addr) (k : Nat), vs = [.ref p, .int k] ∧ k < 10 ∧ FlowAt H p ∧ ∀ y G, FlowAt G p → But p H G → okE k G y → Alike G 2 y y → Q y G
structure GivenTxt (K : PySem.W.Frag) (mg : Str → Option Value) (fD fP : Addr) : Prop where
  gD : mg "_law_draw" = some (.ref fD)
  kD : PySem.W.keepIn K (.ref fD) = true
  gP : mg "_law_pick" = some (.ref fP)
  kP : PySem.W.keepIn K (.ref fP) = true
theorem small_log {z : Int} (h : z.natAbs < 2 ^ 101) : z.natAbs.log2 < 1920 := Nat.lt_trans (PySem.Flt.log2_lt_of (by decide) h) (by decide)
theorem ten30 : ((10 : Int) ^ 30) = 1000000000000000000000000000000 := by decide +kernel
theorem ten9 : ((10 : Int) ^ 9) = 1000000000 := by decide +kernel
theorem wide_ok {k : Int} (h : k.natAbs < 2 ^ 101) : k.natAbs < 2 ^ 8000 := Nat.lt_of_lt_of_le h (Nat.pow_le_pow_right (by decide) (by decide))
theorem flat_alike {H : Hp} {x : V} (h : FlatV x) (n : Nat) : Alike H n x x := by
  cases h with
  | non => exact .non n
  | bl b => exact .bl n b
  | int i _ => exact .int n i
  | str y _ => exact .str n y
theorem flats_alike {H : Hp} {a : Addr} {xs : List V} {n : Nat} (e : H a = some (.tup xs)) (h : ∀ x ∈ xs, FlatV x) (l : xs.length ≤ 8) : Alike H (n + 1) (.ref a) (.ref a) :=
  .tup e e rfl (by rw [sizeLine_eq]; omega) fun i x y hx hy => by
    rw [hx] at hy
    cases hy
    exact flat_alike (h x (List.mem_of_getElem? hx)) n
theorem small_alike {H : Hp} {x : V} (h : SmallV H x) (n : Nat) : Alike H (n + 1) x x := by
  cases h with
  | flat h => exact flat_alike h _
  | tup e h l => exact flats_alike e h l
theorem shown_alike {H : Hp} {x : V} (h : ShownV H x) (n : Nat) : Alike H (n + 2) x x := by
  cases h with
  | small h => exact small_alike h _
  | lst e h l =>
    refine .lst e e rfl (by rw [sizeLine_eq]; omega) fun i x y hx hy => ?_
    rw [hx] at hy
    cases hy
    exact small_alike (h x (List.mem_of_getElem? hx)) n
theorem smallSame {H G : Hp} {y : V} (sm : Same H G) (h : SmallV H y) : SmallV G y := by
  cases h with
  | flat h => exact .flat h
  | tup e h l => exact .tup (sm _ _ e) h l
theorem shownSame {H G : Hp} {y : V} (sm : Same H G) (h : ShownV H y) : ShownV G y := by
  cases h with
  | small h => exact .small (smallSame sm h)
  | lst e h l => exact .lst (sm _ _ e) (fun x hx => smallSame sm (h x hx)) l
theorem toldSame {H G : Hp} {y : V} (h : Told H y) : Told G y := by
  cases h with
  | num i h => exact .num i h
  | txt y h => exact .txt y h
theorem okSame {H G : Hp} {y : V} (sm : Same H G) : ∀ {k : Nat}, okE k H y → okE k G y
  | 0, h => toldSame h | 1, h => toldSame h | 2, h => toldSame h | 3, h => toldSame h | 4, h => toldSame h | 5, h => shownSame sm h | (_ + 6), h => toldSame h
theorem told_ok {H : Hp} {y : V} : ∀ {k : Nat}, k ≠ 5 → Told H y → okE k H y
  | 0, _, h => h | 1, _, h => h | 2, _, h => h | 3, _, h => h | 4, _, h => h | 5, n, _ => absurd rfl n | (_ + 6), _, h => h
section
variable {P : Program} {w : World} {K : PySem.W.Frag} {mg : Str → Option Value} {base : Heap} {fD fP : Addr}
theorem scG : FnScope ["flow", "kind", "number"] ["flow", "kind"] (defScope sGiven) := ⟨rfl, rfl, rfl, by decide +kernel, rfl, by decide +kernel, by decide +kernel⟩
theorem ok_given {f : Addr} {fd fdD fdP : FuncData} (F : Fun K "_law_given" "_law_given" sGiven f fd) (T : GivenTxt K mg fD fP) (GD : FnOk P w K mg base CX0 2 fD fdD ["flow", "many"] spDraw) (bD : Binds K fdD ["flow", "many"] [])
    (GP : FnOk P w K mg base CX0 3 fP fdP ["flow", "things"] spPick) (bP : Binds K fdP ["flow", "things"] []) : FnOk P w K mg base CX0 4 f fd ["flow", "kind"] spGiven := by
  refine F.ok scG (fun vs H Q E h => ?_) (fun cdv A outer s H vs Q E hr h => ?_)
  · obtain ⟨p, k, rfl, _⟩ := h
    rfl
  · obtain ⟨p, k, rfl, hk, hf, go⟩ := h
    have hr2 : Room 2 _ := hr.mono (by decide)
    refine ⟨_, pss_cons (ps_set (i := 2) scG.nd rfl (Or.inl rfl) (pe_call GP hr rfl T.gP T.kP bP .nil pass0 (pa_cons (pv 0) (pa_cons (pe_lst (pa_cons pe_int (pa_cons pe_int (pa_cons (pe_un un_neg pe_int)
        (pa_cons (pe_call GD hr2 rfl T.gD T.kD bD .nil pass0 (pa_cons (pv 0) (pa_cons pe_int pa_nil)))
        (pa_cons (pe_call GD hr2 rfl T.gD T.kD bD .nil pass0 (pa_cons (pv 0) (pa_cons (pe_op op_pow pe_int pe_int) pa_nil)))
        (pa_cons (pe_op op_sub pe_int (pe_call GD hr2 rfl T.gD T.kD bD .nil pass0 (pa_cons (pv 0) (pa_cons (pe_op op_pow pe_int pe_int) pa_nil)))) pa_nil))))))) pa_nil))))
      (pss_cons (ps_if (pt_cmpR op_eq (pv 1) pe_int (nomark _)) (pss_one (ps_ret (pe_call GP hr rfl T.gP T.kP bP .nil pass0 (pa_cons (pv 0) (pa_cons (pe_lst (pa_cons (pv 2) (pa_cons pe_non (pa_cons pe_str (pa_cons pe_str (pa_cons (pe_tup pa_nil)
        (pa_cons (pe_tup (pa_cons (pv 2) (pa_cons pe_str pa_nil))) (pa_cons (pe_lst (pa_cons (pv 2) pa_nil)) (pa_cons (pe_lst pa_nil) (pa_cons (pe_lst (pa_cons pe_str (pa_cons (pe_tup (pa_cons pe_non pa_nil)) pa_nil))) (pa_cons pe_bl (pa_cons pe_bl pa_nil)))))))))))) pa_nil))))) pss_nil)
      (pss_cons (ps_if (pt_cmpR op_gt (pv 1) pe_int (nomark _)) (pss_one (ps_ret (pe_call GP hr rfl T.gP T.kP bP .nil pass0 (pa_cons (pv 0) (pa_cons (pe_lst (pa_cons pe_str (pa_cons pe_str (pa_cons pe_str (pa_cons pe_str (pa_cons pe_str (pa_cons pe_str (pa_cons pe_str (pa_cons pe_str pa_nil))))))))) pa_nil))))) pss_nil)
      (pss_one (ps_ret (pv 2))))), ?_⟩
    -- the number: three draws, then a pick
    refine ⟨_, rfl, ?_⟩
    refine ⟨_, rfl, ?_⟩
    refine ⟨_, rfl, p, 100, rfl, hf, wide_ok (by decide), fun z1 x1 g1 b1 f1 => ?_⟩
    refine ⟨_, rfl, _, _, rfl, rfl, ⟨by decide, by decide, by decide⟩, p, _, rfl, f1, wide_ok (by show ((10 : Int) ^ 30).natAbs < _; rw [ten30]; decide), fun z2 x2 g2 b2 f2 => ?_⟩
    refine ⟨_, rfl, _, _, rfl, rfl, ⟨by decide, by decide, by decide⟩, p, _, rfl, f2, wide_ok (by show ((10 : Int) ^ 9).natAbs < _; rw [ten9]; decide), fun z3 x3 g3 b3 f3 => ?_⟩
    refine ⟨_, _, rfl, rfl, by show 6 ≤ sizeLine; decide, fun q hq => ?_⟩
    simp only [upd_upd] at f2 f3 hq ⊢
    have hf3 := f3.up (q := q) (o := .lst [.int 0, .int 1, .int (-1), .int z1, .int z2, .int (0 - z3)]) hq
    have qp : q ≠ p := fun z => by rw [z, upd_same] at hq; cases hq
    refine ⟨p, q, _, rfl, hf3, upd_same, qp, by simp, by simp, fun v xs hv ff => ?_⟩
    have num : ∃ i : Int, v = .int i ∧ i.natAbs < 2 ^ 101 := by
      have e30 : ((10 : Int) ^ (30 : Int).toNat) = 1000000000000000000000000000000 := ten30
      have e9 : ((10 : Int) ^ (9 : Int).toNat) = 1000000000 := ten9
      simp only [e30] at b2
      simp only [e9] at b3
      simp only [List.mem_cons, List.mem_nil_iff, or_false] at hv
      rcases hv with rfl | rfl | rfl | rfl | rfl | rfl
      · exact ⟨_, rfl, by decide⟩
      · exact ⟨_, rfl, by decide⟩
      · exact ⟨_, rfl, by decide⟩
      · exact ⟨_, rfl, by omega⟩
      · exact ⟨_, rfl, by omega⟩
      · exact ⟨_, rfl, by omega⟩
    obtain ⟨num, rfl, hn⟩ := num
    have bt : But p H (upd (upd (upd H p (.lst x3)) q (.lst [.int 0, .int 1, .int (-1), .int z1, .int z2, .int (0 - z3)])) p (.lst xs)) := But.flow (But.new (But.flow But.refl) hq)
    generalize upd (upd (upd H p (.lst x3)) q (.lst [.int 0, .int 1, .int (-1), .int z1, .int z2, .int (0 - z3)])) p (.lst xs) = G at ff bt ⊢
    have keep : ∀ {G : Hp} {a b : Addr} {o u : HO}, G b = some u → G a = none → upd G a o b = some u := fun e n => (upd_ne (ne_of_none e n)).trans e
    have hlog := small_log hn
    refine ⟨_, rfl, rfl, _, rfl, ?_⟩
    refine ite2 (fun c5 => ?_) (fun c5 => ?_)
    · obtain rfl : k = 5 := by
        have z := of_decide_eq_true c5
        injection z with z
        omega
      refine ⟨_, rfl, _, rfl, by show 0 ≤ sizeLine; decide, fun t1 n1 => ?_⟩
      refine ⟨_, rfl, by show 2 ≤ sizeLine; decide, fun t2 n2 => ?_⟩
      refine ⟨_, rfl, by show 1 ≤ sizeLine; decide, fun l3 n3 => ?_⟩
      refine ⟨by show 0 ≤ sizeLine; decide, fun l4 n4 => ?_⟩
      refine ⟨by show 1 ≤ sizeLine; decide, fun t5 n5 => ?_⟩
      refine ⟨by show 2 ≤ sizeLine; decide, fun l6 n6 => ?_⟩
      refine ⟨by show 11 ≤ sizeLine; decide, fun q2 n7 => ?_⟩
      have f1 := ff.up (q := t1) (o := .tup []) n1
      have b1 := But.new (o := .tup []) bt n1
      have e1 : upd G t1 (.tup []) t1 = some (.tup []) := upd_same
      generalize upd G t1 (.tup []) = G1 at n2 n3 n4 n5 n6 n7 f1 b1 e1 ⊢
      have f2 := f1.up (q := t2) (o := .tup [.int num, .str "b"]) n2
      have b2 := But.new (o := .tup [.int num, .str "b"]) b1 n2
      have e1 := keep (o := .tup [.int num, .str "b"]) e1 n2
      have e2 : upd G1 t2 (.tup [.int num, .str "b"]) t2 = some (.tup [.int num, .str "b"]) := upd_same
      generalize upd G1 t2 (.tup [.int num, .str "b"]) = G2 at n3 n4 n5 n6 n7 f2 b2 e1 e2 ⊢
      have f3 := f2.up (q := l3) (o := .lst [.int num]) n3
      have b3 := But.new (o := .lst [.int num]) b2 n3
      have e1 := keep (o := .lst [.int num]) e1 n3
      have e2 := keep (o := .lst [.int num]) e2 n3
      have e3 : upd G2 l3 (.lst [.int num]) l3 = some (.lst [.int num]) := upd_same
      generalize upd G2 l3 (.lst [.int num]) = G3 at n4 n5 n6 n7 f3 b3 e1 e2 e3 ⊢
      have f4 := f3.up (q := l4) (o := .lst []) n4
      have b4 := But.new (o := .lst []) b3 n4
      have e1 := keep (o := .lst []) e1 n4
      have e2 := keep (o := .lst []) e2 n4
      have e3 := keep (o := .lst []) e3 n4
      have e4 : upd G3 l4 (.lst []) l4 = some (.lst []) := upd_same
      generalize upd G3 l4 (.lst []) = G4 at n5 n6 n7 f4 b4 e1 e2 e3 e4 ⊢
      have f5 := f4.up (q := t5) (o := .tup [.non]) n5
      have b5 := But.new (o := .tup [.non]) b4 n5
      have e1 := keep (o := .tup [.non]) e1 n5
      have e2 := keep (o := .tup [.non]) e2 n5
      have e3 := keep (o := .tup [.non]) e3 n5
      have e4 := keep (o := .tup [.non]) e4 n5
      have e5 : upd G4 t5 (.tup [.non]) t5 = some (.tup [.non]) := upd_same
      generalize upd G4 t5 (.tup [.non]) = G5 at n6 n7 f5 b5 e1 e2 e3 e4 e5 ⊢
      have f6 := f5.up (q := l6) (o := .lst [.str "c", .ref t5]) n6
      have b6 := But.new (o := .lst [.str "c", .ref t5]) b5 n6
      have e1 := keep (o := .lst [.str "c", .ref t5]) e1 n6
      have e2 := keep (o := .lst [.str "c", .ref t5]) e2 n6
      have e3 := keep (o := .lst [.str "c", .ref t5]) e3 n6
      have e4 := keep (o := .lst [.str "c", .ref t5]) e4 n6
      have e5 := keep (o := .lst [.str "c", .ref t5]) e5 n6
      have e6 : upd G5 l6 (.lst [.str "c", .ref t5]) l6 = some (.lst [.str "c", .ref t5]) := upd_same
      generalize upd G5 l6 (.lst [.str "c", .ref t5]) = G6 at n7 f6 b6 e1 e2 e3 e4 e5 e6 ⊢
      have f7 := f6.up (q := q2) (o := .lst [.int num, .non, .str "a", .str "", .ref t1, .ref t2, .ref l3, .ref l4, .ref l6, .bl true, .bl false]) n7
      have b7 := But.new (o := .lst [.int num, .non, .str "a", .str "", .ref t1, .ref t2, .ref l3, .ref l4, .ref l6, .bl true, .bl false]) b6 n7
      have e1 := keep (o := .lst [.int num, .non, .str "a", .str "", .ref t1, .ref t2, .ref l3, .ref l4, .ref l6, .bl true, .bl false]) e1 n7
      have e2 := keep (o := .lst [.int num, .non, .str "a", .str "", .ref t1, .ref t2, .ref l3, .ref l4, .ref l6, .bl true, .bl false]) e2 n7
      have e3 := keep (o := .lst [.int num, .non, .str "a", .str "", .ref t1, .ref t2, .ref l3, .ref l4, .ref l6, .bl true, .bl false]) e3 n7
      have e4 := keep (o := .lst [.int num, .non, .str "a", .str "", .ref t1, .ref t2, .ref l3, .ref l4, .ref l6, .bl true, .bl false]) e4 n7
      have e5 := keep (o := .lst [.int num, .non, .str "a", .str "", .ref t1, .ref t2, .ref l3, .ref l4, .ref l6, .bl true, .bl false]) e5 n7
      have e6 := keep (o := .lst [.int num, .non, .str "a", .str "", .ref t1, .ref t2, .ref l3, .ref l4, .ref l6, .bl true, .bl false]) e6 n7
      have e7 : upd G6 q2 (.lst [.int num, .non, .str "a", .str "", .ref t1, .ref t2, .ref l3, .ref l4, .ref l6, .bl true, .bl false]) q2 = some (.lst [.int num, .non, .str "a", .str "", .ref t1, .ref t2, .ref l3, .ref l4, .ref l6, .bl true, .bl false]) := upd_same
      have qp2 : q2 ≠ p := fun z => by
        obtain ⟨_, _, _, _, _, _, _, e, _⟩ := f6
        rw [z, e] at n7
        cases n7
      generalize upd G6 q2 (.lst [.int num, .non, .str "a", .str "", .ref t1, .ref t2, .ref l3, .ref l4, .ref l6, .bl true, .bl false]) = G7 at f7 b7 e1 e2 e3 e4 e5 e6 e7 ⊢
      refine ⟨p, q2, _, rfl, f7, e7, qp2, by simp, by simp, fun v xs hv f8 => ?_⟩
      have np : ∀ {a : Addr} {o : HO}, G7 a = some o → (∀ l i c n m b, o ≠ .lst (row l i c n m b)) → upd G7 p (.lst xs) a = some o := fun {a o} e hne => by
        refine (upd_ne fun z => ?_).trans e
        obtain ⟨l, _, i, c, n, m, b, h1, _⟩ := f7
        rw [z, h1] at e
        exact hne l i c n m b (Option.some.inj e).symm
      have c1 := np e1 (by intros; intro z; cases z)
      have c2 := np e2 (by intros; intro z; cases z)
      have c3 := np e3 (by intros; intro z; cases z)
      have c4 := np e4 (by intros; intro z; cases z)
      have c5 := np e5 (by intros; intro z; cases z)
      have c6 := np e6 (by intros; intro z; cases z)
      have b8 : But p H (upd G7 p (.lst xs)) := But.flow b7
      generalize upd G7 p (.lst xs) = Z at f8 c1 c2 c3 c4 c5 c6 b8 ⊢
      have fn : FlatV (.int num) := .int num hlog
      have fs : ∀ t : Str, (reprText t).length ≤ 2000 → FlatV (.str t) := fun t h => .str t h
      have sh : ShownV Z v := by
        simp only [List.mem_cons, List.mem_nil_iff, or_false] at hv
        rcases hv with rfl | rfl | rfl | rfl | rfl | rfl | rfl | rfl | rfl | rfl | rfl
        · exact .small (.flat fn)
        · exact .small (.flat .non)
        · exact .small (.flat (fs _ (by decide +kernel)))
        · exact .small (.flat (fs _ (by decide +kernel)))
        · exact .small (.tup c1 (fun x hx => by cases hx) (by simp))
        · refine .small (.tup c2 (fun x hx => ?_) (by simp))
          simp only [List.mem_cons, List.mem_nil_iff, or_false] at hx
          rcases hx with rfl | rfl
          · exact fn
          · exact fs _ (by decide +kernel)
        · refine .lst c3 (fun x hx => ?_) (by simp)
          rw [List.mem_singleton.mp hx]
          exact .flat fn
        · exact .lst c4 (fun x hx => by cases hx) (by simp)
        · refine .lst c6 (fun x hx => ?_) (by simp)
          simp only [List.mem_cons, List.mem_nil_iff, or_false] at hx
          rcases hx with rfl | rfl
          · exact .flat (fs _ (by decide +kernel))
          · refine .tup c5 (fun x hx => ?_) (by simp)
            rw [List.mem_singleton.mp hx]
            exact .non
        · exact .small (.flat (.bl _))
        · exact .small (.flat (.bl _))
      exact go _ _ f8 b8 sh (shown_alike sh 0)
    · have k5 : k ≠ 5 := fun z => c5 (by subst z; decide)
      refine ⟨_, rfl, _, _, rfl, rfl, _, rfl, ?_⟩
      refine ite2 (fun _ => ?_) (fun _ => ?_)
      · refine ⟨_, rfl, by show 8 ≤ sizeLine; decide, fun q2 n2 => ?_⟩
        have f2 := ff.up (q := q2) (o := .lst [.str "a", .str "mid", .str "terms", .str "figures", .str "points", .str "undo", .str "x_a", .str ""]) n2
        have q2p : q2 ≠ p := fun z => by
          obtain ⟨_, _, _, _, _, _, _, e, _⟩ := ff
          rw [z, e] at n2
          cases n2
        refine ⟨p, q2, _, rfl, f2, upd_same, q2p, by simp, by simp, fun v xs hv f3 => ?_⟩
        have txt : ∃ t : Str, v = .str t ∧ t.length ≤ 1000 := by
          simp only [List.mem_cons, List.mem_nil_iff, or_false] at hv
          rcases hv with rfl | rfl | rfl | rfl | rfl | rfl | rfl | rfl <;> exact ⟨_, rfl, by decide +kernel⟩
        obtain ⟨t, rfl, ht⟩ := txt
        exact go _ _ f3 (But.flow (But.new bt n2)) (told_ok k5 (.txt t ht)) (.str 2 t)
      · exact ⟨_, rfl, go _ _ ff bt (told_ok k5 (.num num hlog)) (.int 2 num)⟩
/-- the law is True -/
def spLaw (K : PySem.W.Frag) : Sp := fun vs H Q _ => ∃ (a : Addr) (ns : List Int), vs = [.ref a] ∧ SqL K H a (ns.map V.int) ∧ ∀ H', Q (.bl true) H'
structure TopTxt (K : PySem.W.Frag) (mg : Str → Option Value) (fF fG fS fK fC : Addr) : Prop where
  range : mg "range" = none
  gF : mg "_law_flow" = some (.ref fF)
  kF : PySem.W.keepIn K (.ref fF) = true
  gG : mg "_law_given" = some (.ref fG)
  kG : PySem.W.keepIn K (.ref fG) = true
  gS : mg "_law_same" = some (.ref fS)
  kS : PySem.W.keepIn K (.ref fS) = true
  gK : mg "_law_kept" = some (.ref fK)
  kK : PySem.W.keepIn K (.ref fK) = true
  gC : mg "_law_classes" = some (.ref fC)
  kC : PySem.W.keepIn K (.ref fC) = true
theorem scLaw : FnScope ["script", "flow", "kind", "turn", "given"] ["script"] (defScope sLaw) := ⟨rfl, rfl, rfl, by decide +kernel, rfl, by decide +kernel, by decide +kernel⟩
theorem ok_law {f fF fG fS fK fC : Addr} {fd fdF fdG fdS fdK fdC : FuncData} (F : Fun K "law" "law" sLaw f fd) (T : TopTxt K mg fF fG fS fK fC)
    (GF : FnOk P w K mg base CX0 1 fF fdF ["script"] (spFlow K)) (bF : Binds K fdF ["script"] []) (GG : FnOk P w K mg base CX0 4 fG fdG ["flow", "kind"] spGiven) (bG : Binds K fdG ["flow", "kind"] [])
    (GS : FnOk P w K mg base CX0 4 fS fdS ["actual", "due"] (spSame 3)) (bS : Binds K fdS ["actual", "due"] []) (GK : FnOk P w K mg base CX0 4 fK fdK ["kind", "given"] spKept) (bK : Binds K fdK ["kind", "given"] [])
    (GC : FnOk P w K mg base CX0 4 fC fdC ["kind", "given"] spClasses) (bC : Binds K fdC ["kind", "given"] []) : FnOk P w K mg base CX0 5 f fd ["script"] (spLaw K) := by
  refine F.ok scLaw (fun vs H Q E h => ?_) (fun cdv A outer s H vs Q E hr h => ?_)
  · obtain ⟨a, ns, rfl, _⟩ := h
    rfl
  · obtain ⟨a, ns, rfl, hS, go⟩ := h
    have hr1 : Room 1 _ := hr.mono (by decide)
    refine ⟨_, pss_cons (ps_set (i := 1) scLaw.nd rfl (Or.inl rfl) (pe_call GF hr1 rfl T.gF T.kF bF .nil pass0 (pa_cons (pv 0) pa_nil)))
      (pss_cons (ps_for PassesOwn.never rfl (pi_range1 rfl T.range (pa_cons pe_int pa_nil)) (pg_name (i := 2) scLaw.nd rfl (Or.inl rfl))
        (pss_one (ps_for PassesOwn.never rfl (pi_range1 rfl T.range (pa_cons pe_int pa_nil)) (pg_name (i := 3) scLaw.nd rfl (Or.inl rfl))
          (pss_cons (ps_set (i := 4) scLaw.nd rfl (Or.inl rfl) (pe_call GG hr rfl T.gG T.kG bG .nil pass0 (pa_cons (pv 1) (pa_cons (pv 2) pa_nil))))
          (pss_one (ps_if (PW.pt (pw_or (pt_not (pt_val (pe_call GS hr rfl T.gS T.kS bS .nil pass0 (pa_cons (pe_call GK hr rfl T.gK T.kK bK .nil pass0 (pa_cons (pv 2) (pa_cons (pv 4) pa_nil))) (pa_cons (pe_tup (pa_cons (pv 2) (pa_cons (pv 4) pa_nil))) pa_nil)))))
            (pw_or1 (pt_not (pt_val (pe_call GC hr rfl T.gC T.kC bC .nil pass0 (pa_cons (pv 2) (pa_cons (pv 4) pa_nil))))))))
            (pss_one (ps_ret pe_bl)) pss_nil))))))
      (pss_one (ps_ret pe_bl))), ?_⟩
    refine ⟨_, rfl, a, ns, rfl, hS, fun H1 p s1 p0 f1 => ?_⟩
    refine ⟨10, rfl, by decide, by decide, for_range (lo := 0) (n := 10) (fun i σ G => ∃ u2 u3 u4 : Option V, σ = [some (.ref a), some (.ref p), u2, u3, u4] ∧ FlowAt G p) ⟨_, _, _, rfl, f1⟩ ?_ (fun σ G _ => go _)⟩
    rintro i σ G hi ⟨u2, u3, u4, rfl, fG⟩
    rw [show (0 : Int) + (i : Int) = i from Int.zero_add _]
    refine ⟨2, rfl, by decide, by decide, for_range (lo := 0) (n := 2) (fun j σ G => ∃ v3 v4 : Option V, σ = [some (.ref a), some (.ref p), some (.int i), v3, v4] ∧ FlowAt G p) ⟨_, _, rfl, fG⟩ ?_ (fun σ G ⟨v3, v4, e, ff⟩ => ⟨_, _, _, e, ff⟩)⟩
    rintro j σ G hj ⟨v3, v4, rfl, ff⟩
    refine ⟨_, rfl, _, rfl, p, i, rfl, hi, ff, fun y Z fz bz ok al => ?_⟩
    -- _law_same(_law_kept(kind, given), (kind, given))
    refine ⟨_, rfl, _, rfl, i, y, rfl, hi, ok, fun t Z1 sm nt ht => ?_⟩
    refine ⟨_, rfl, _, rfl, by show 2 ≤ sizeLine; decide, fun t2 n2 => ?_⟩
    have e1 : upd Z1 t2 (.tup [.int i, y]) t = some (.tup [.int i, y]) := (upd_ne (ne_of_none ht n2)).trans ht
    have up : Same Z (upd Z1 t2 (.tup [.int i, y])) := fun b o q => (upd_ne (ne_of_none (sm b o q) n2)).trans (sm b o q)
    have al2 := al.up up
    refine ⟨_, _, rfl, .tup e1 upd_same rfl (by show 2 ≤ sizeLine; decide) (fun n x z hx hz => ?_), fun Z2 sm2 => ⟨true, rfl, ?_⟩⟩
    · rw [hx] at hz
      cases hz
      have hm := List.mem_of_getElem? hx
      simp only [List.mem_cons, List.mem_nil_iff, or_false] at hm
      rcases hm with rfl | rfl
      · exact .int _ _
      · exact al2
    · have up2 : Same Z Z2 := fun b o q => sm2 b o (up b o q)
      refine ifN rfl ?_
      refine ⟨_, rfl, _, rfl, i, y, rfl, hi, ?_, fun Z3 sm3 => ⟨true, rfl, ifN rfl ?_⟩⟩
      · exact okSame up2 ok
      · refine ⟨_, _, rfl, ?_⟩
        obtain ⟨l, ns2, i2, c2, n3, m2, b2, h1, h2, h3⟩ := fz
        exact ⟨l, ns2, i2, c2, n3, m2, b2, sm3 _ _ (up2 _ _ h1), sm3 _ _ (up2 _ _ h2), h3⟩
end
end K0E

set_option Elab.async false
set_option linter.all false
set_option maxRecDepth 100000
set_option maxHeartbeats 8000000
/-! What the top has written; the end. -/
namespace K0E
open PySem L2
/-- the ten classes' places by kind -/
def pick10 (a0 a1 a2 a3 a4 a5 a6 a7 a8 a9 : Addr) : Nat → Addr
  | 0 => a0 | 1 => a1 | 2 => a2 | 3 => a3 | 4 => a4 | 5 => a5 | 6 => a6 | 7 => a7 | 8 => a8 | _ => a9
def pickFd (a0 a1 a2 a3 a4 a5 a6 a7 a8 a9 : FuncData) : Nat → FuncData
  | 0 => a0 | 1 => a1 | 2 => a2 | 3 => a3 | 4 => a4 | 5 => a5 | 6 => a6 | 7 => a7 | 8 => a8 | _ => a9
/-- an own error class over the base at B, at C -/
structure ClsFacts (K : PySem.W.Frag) (B C f : Addr) (x fld : Str) : Prop where
  gC : PySem.W.nsIn K mainGlobals x = some (some (.ref C))
  xL : ∃ nm q N bs sn sub ab col dd k0 k1 k2 k3 k5, K.lookup C = some (excClassObj nm q C N bs [.ref B, .type "Exception", .type "BaseException", .type "object"] true sn sub ab col dd k0 k1 k2 k3 k5 "Exception.__new__")
  sa : PySem.W.findIn K (.ref C) "__setattr__" = some (some (.builtin "object.__setattr__"))
  ga : PySem.W.findIn K (.ref C) "__getattribute__" = some (some (.builtin "BaseException.__getattribute__"))
  gg : PySem.W.findIn K (.ref C) "__getattr__" = some none
  nb : PySem.W.findIn K (.ref C) fld = some none
  cc : PySem.W.findIn K (.ref C) "__class__" = some (some (.builtin "object.__class__"))
  iC : PySem.W.findIn K (.ref C) "__init__" = some (some (.ref f))
  tI : PySem.W.typeIn K (.ref f) = some (.type "function")
  kC : PySem.W.keepIn K (.ref C) = true
  tC : PySem.W.typeIn K (.ref C) = some (.type "type")
section
variable {K : PySem.W.Frag} {B C f : Addr} {x fld : Str}
def line (B C : Addr) : List Value := [.ref C, .ref B, .type "Exception", .type "BaseException", .type "object"]
theorem ClsFacts.cls (T : ClsFacts K B C f x fld) : ∃ cd, PySem.W.clsIn K C = some cd ∧ cd.mro = line B C ∧ cd.hasDict = true := by
  obtain ⟨nm, q, N, bs, sn, sub, ab, col, dd, k0, k1, k2, k3, k5, h⟩ := T.xL
  refine ⟨{ name := nm, bases := bs, mro := line B C, ns := N, qualname := q, hasDict := true, slotNames := sn, subclasses := sub, abstract := ab, collection := col, hasDel := false }, ?_, rfl, rfl⟩
  unfold PySem.W.clsIn
  rw [h]
  rfl
theorem ClsFacts.sub (T : ClsFacts K B C f x fld) (v : Value) : PySem.W.subIn K (.ref C) v = some ((line B C).contains v) := by
  obtain ⟨cd, h1, h2, _⟩ := T.cls
  show PySem.W.mroIn K C v = _
  unfold PySem.W.mroIn
  rw [h1, Option.bind_some, h2]
  rfl
theorem ClsFacts.err (T : ClsFacts K B C f x fld) : ErrC K C where
  cls := by
    obtain ⟨nm, q, N, bs, sn, sub, ab, col, dd, k0, k1, k2, k3, k5, h⟩ := T.xL
    exact ⟨nm, q, N, bs, _, sn, sub, ab, col, dd, k0, k1, k2, k3, k5, h, [B], rfl⟩
  sa := T.sa
  exC := (T.sub _).trans (by rfl)
  tyC := T.tC
  kC := T.kC
theorem ClsFacts.has (T : ClsFacts K B C f x fld) : PySem.W.hasDictIn K C = true := by
  obtain ⟨cd, h1, _, h3⟩ := T.cls
  unfold PySem.W.hasDictIn
  rw [h1]
  exact h3
theorem ClsFacts.xf (T : ClsFacts K B C f x fld) : XfC K C := ⟨T.ga, T.gg, (T.sub _).trans (by rfl), T.has⟩
theorem ClsFacts.ask (T : ClsFacts K B C f x fld) (g1 : PySem.W.specialIn K (.builtin "object.__class__") "__get__" = some (some (.builtin "getset_descriptor.__get__"))) (g2 : PySem.W.takesIn K (.builtin "object.__class__") = some true) : AskC K C where
  cl := by
    obtain ⟨cd, h1, _⟩ := T.cls
    rw [h1]
    rfl
  ga := T.ga
  gg := T.gg
  exC := (T.sub _).trans (by rfl)
  cls := T.cc
  get := g1
  tak := g2
  obj := (T.sub _).trans (by rfl)
theorem ref_bne {a b : Addr} (h : a ≠ b) : (Value.ref a == Value.ref b) = false := by simp [h]
theorem kit_of_cls {D : Addr} {b : Bool} (h1 : (PySem.W.clsIn K D).isSome = true) (h2 : PySem.W.typeIn K (.ref D) = some (.type "type")) (h3 : PySem.W.subIn K (.ref C) (.ref D) = some b) (h4 : C = D → b = true) : PySem.W.kitOne K (.ref C) (.ref D) = some b := by
  unfold PySem.W.kitOne
  by_cases e : C = D
  · subst e
    rw [if_pos (by simp), h4 rfl]
  · rw [if_neg (by simp [e])]
    show (if ((PySem.W.clsIn K D).isSome && PySem.W.typeIn K (.ref D) == some (.type "type")) = true then PySem.W.subIn K (.ref C) (.ref D) else none) = _
    rw [h1, h2, if_pos (by rfl), h3]
theorem exm_of_cls {D : Addr} {b : Bool} (h0 : PySem.W.subIn K (.ref D) (.type "BaseException") = some true) (h1 : (PySem.W.clsIn K D).isSome = true) (h2 : PySem.W.typeIn K (.ref D) = some (.type "type")) (h3 : PySem.W.subIn K (.ref C) (.ref D) = some b) : PySem.W.exmOne K (.ref C) (.ref D) = some b := by
  unfold PySem.W.exmOne
  rw [h0, if_pos (by rfl)]
  show (if ((PySem.W.clsIn K D).isSome && PySem.W.typeIn K (.ref D) == some (.type "type")) = true then PySem.W.subIn K (.ref C) (.ref D) else none) = _
  rw [h1, h2, if_pos (by rfl), h3]
theorem ClsFacts.other (T : ClsFacts K B C f x fld) {D : Addr} (hB : D ≠ B) : PySem.W.subIn K (.ref C) (.ref D) = some (decide (C = D)) := by
  rw [T.sub]
  by_cases e : C = D
  · subst e
    simp [line]
  · have e2 : ¬ D = C := fun z => e z.symm
    simp [line, e, e2, hB]
end
theorem all_mk {l : PySem.W.OpenLaw} {w : World} {K : PySem.W.Frag} {h : Heap} {mg : Str → Option Value} {fa B : Addr} (X : K.In h) (G : h.Ns mainGlobals mg) (hfa : mg "law" = some (.ref fa))
    {C0 f0 N0 : Addr} {nm0 q0 : Str} {bs0 sub0 : List Value} {sn0 : List Str} {ab0 : Bool} {col0 : Option Bool} {dd0 od0 an0 : Option Addr} {m0a m0b m0c m0d m0e : Option Value} {oc0 kV0 dc0 pm0 cd0 ct0 : Value} {sl0 : Array (Option Value)}
    {C1 f1 N1 : Addr} {nm1 q1 : Str} {bs1 sub1 : List Value} {sn1 : List Str} {ab1 : Bool} {col1 : Option Bool} {dd1 od1 an1 : Option Addr} {m1a m1b m1c m1d m1e : Option Value} {oc1 kV1 dc1 pm1 cd1 ct1 : Value} {sl1 : Array (Option Value)}
    {C2 f2 N2 : Addr} {nm2 q2 : Str} {bs2 sub2 : List Value} {sn2 : List Str} {ab2 : Bool} {col2 : Option Bool} {dd2 od2 an2 : Option Addr} {m2a m2b m2c m2d m2e : Option Value} {oc2 kV2 dc2 pm2 cd2 ct2 : Value} {sl2 : Array (Option Value)}
    {C3 f3 N3 : Addr} {nm3 q3 : Str} {bs3 sub3 : List Value} {sn3 : List Str} {ab3 : Bool} {col3 : Option Bool} {dd3 od3 an3 : Option Addr} {m3a m3b m3c m3d m3e : Option Value} {oc3 kV3 dc3 pm3 cd3 ct3 : Value} {sl3 : Array (Option Value)}
    {C4 f4 N4 : Addr} {nm4 q4 : Str} {bs4 sub4 : List Value} {sn4 : List Str} {ab4 : Bool} {col4 : Option Bool} {dd4 od4 an4 : Option Addr} {m4a m4b m4c m4d m4e : Option Value} {oc4 kV4 dc4 pm4 cd4 ct4 : Value} {sl4 : Array (Option Value)}
    {C5 f5 N5 : Addr} {nm5 q5 : Str} {bs5 sub5 : List Value} {sn5 : List Str} {ab5 : Bool} {col5 : Option Bool} {dd5 od5 an5 : Option Addr} {m5a m5b m5c m5d m5e : Option Value} {oc5 kV5 dc5 pm5 cd5 ct5 : Value} {sl5 : Array (Option Value)}
    {C6 f6 N6 : Addr} {nm6 q6 : Str} {bs6 sub6 : List Value} {sn6 : List Str} {ab6 : Bool} {col6 : Option Bool} {dd6 od6 an6 : Option Addr} {m6a m6b m6c m6d m6e : Option Value} {oc6 kV6 dc6 pm6 cd6 ct6 : Value} {sl6 : Array (Option Value)}
    {C7 f7 N7 : Addr} {nm7 q7 : Str} {bs7 sub7 : List Value} {sn7 : List Str} {ab7 : Bool} {col7 : Option Bool} {dd7 od7 an7 : Option Addr} {m7a m7b m7c m7d m7e : Option Value} {oc7 kV7 dc7 pm7 cd7 ct7 : Value} {sl7 : Array (Option Value)}
    {C8 f8 N8 : Addr} {nm8 q8 : Str} {bs8 sub8 : List Value} {sn8 : List Str} {ab8 : Bool} {col8 : Option Bool} {dd8 od8 an8 : Option Addr} {m8a m8b m8c m8d m8e : Option Value} {oc8 kV8 dc8 pm8 cd8 ct8 : Value} {sl8 : Array (Option Value)}
    {C9 f9 N9 : Addr} {nm9 q9 : Str} {bs9 sub9 : List Value} {sn9 : List Str} {ab9 : Bool} {col9 : Option Bool} {dd9 od9 an9 : Option Addr} {m9a m9b m9c m9d m9e : Option Value} {oc9 kV9 dc9 pm9 cd9 ct9 : Value} {sl9 : Array (Option Value)}
    {Fflow : Addr} {od_flow an_flow : Option Addr} {sl_flow : Array (Option Value)} {oc_flow kV_flow dc_flow pm_flow cd_flow ct_flow : Value}
    {Fload : Addr} {od_load an_load : Option Addr} {sl_load : Array (Option Value)} {oc_load kV_load dc_load pm_load cd_load ct_load : Value}
    {Fdraw : Addr} {od_draw an_draw : Option Addr} {sl_draw : Array (Option Value)} {oc_draw kV_draw dc_draw pm_draw cd_draw ct_draw : Value}
    {Fpick : Addr} {od_pick an_pick : Option Addr} {sl_pick : Array (Option Value)} {oc_pick kV_pick dc_pick pm_pick cd_pick ct_pick : Value}
    {Fsame : Addr} {od_same an_same : Option Addr} {sl_same : Array (Option Value)} {oc_same kV_same dc_same pm_same cd_same ct_same : Value}
    {Fraise : Addr} {od_raise an_raise : Option Addr} {sl_raise : Array (Option Value)} {oc_raise kV_raise dc_raise pm_raise cd_raise ct_raise : Value}
    {Fkept : Addr} {od_kept an_kept : Option Addr} {sl_kept : Array (Option Value)} {oc_kept kV_kept dc_kept pm_kept cd_kept ct_kept : Value}
    {Fclasses : Addr} {od_classes an_classes : Option Addr} {sl_classes : Array (Option Value)} {oc_classes kV_classes dc_classes pm_classes cd_classes ct_classes : Value}
    {Fgiven : Addr} {od_given an_given : Option Addr} {sl_given : Array (Option Value)} {oc_given kV_given dc_given pm_given cd_given ct_given : Value}
    {Flaw : Addr} {od_law an_law : Option Addr} {sl_law : Array (Option Value)} {oc_law kV_law dc_law pm_law cd_law ct_law : Value}
    (a0 : PySem.W.nsIn K mainGlobals "BadValue" = some (some (.ref C0)))
    (x0 : K.lookup C0 = some (excClassObj nm0 q0 C0 N0 bs0 [.ref B, .type "Exception", .type "BaseException", .type "object"] true sn0 sub0 ab0 col0 dd0 m0a m0b m0c m0d m0e "Exception.__new__"))
    (s0 : PySem.W.findIn K (.ref C0) "__setattr__" = some (some (.builtin "object.__setattr__")))
    (g0 : PySem.W.findIn K (.ref C0) "__getattribute__" = some (some (.builtin "BaseException.__getattribute__")))
    (h0 : PySem.W.findIn K (.ref C0) "__getattr__" = some none)
    (n0 : PySem.W.findIn K (.ref C0) "at" = some none)
    (c0 : PySem.W.findIn K (.ref C0) "__class__" = some (some (.builtin "object.__class__")))
    (i0 : PySem.W.findIn K (.ref C0) "__init__" = some (some (.ref f0)))
    (t0 : PySem.W.typeIn K (.ref f0) = some (.type "function"))
    (l0 : K.lookup f0 = some ⟨oc0, od0, .func (PySem.W.fnOf "__init__" "BadValue.__init__" (defArgs sBadValue) (defBody sBadValue) (defScope sBadValue) .none kV0 dc0 pm0 an0 cd0 ct0), sl0⟩)
    (d0 : PySem.W.codeIn K cd0 "BadValue.__init__" = true)
    (k0 : PySem.W.keepIn K (.ref f0) = true)
    (kk0 : PySem.W.keepIn K (.ref C0) = true)
    (T0 : PySem.W.typeIn K (.ref C0) = some (.type "type"))
    (a1 : PySem.W.nsIn K mainGlobals "BadStep" = some (some (.ref C1)))
    (x1 : K.lookup C1 = some (excClassObj nm1 q1 C1 N1 bs1 [.ref B, .type "Exception", .type "BaseException", .type "object"] true sn1 sub1 ab1 col1 dd1 m1a m1b m1c m1d m1e "Exception.__new__"))
    (s1 : PySem.W.findIn K (.ref C1) "__setattr__" = some (some (.builtin "object.__setattr__")))
    (g1 : PySem.W.findIn K (.ref C1) "__getattribute__" = some (some (.builtin "BaseException.__getattribute__")))
    (h1 : PySem.W.findIn K (.ref C1) "__getattr__" = some none)
    (n1 : PySem.W.findIn K (.ref C1) "at" = some none)
    (c1 : PySem.W.findIn K (.ref C1) "__class__" = some (some (.builtin "object.__class__")))
    (i1 : PySem.W.findIn K (.ref C1) "__init__" = some (some (.ref f1)))
    (t1 : PySem.W.typeIn K (.ref f1) = some (.type "function"))
    (l1 : K.lookup f1 = some ⟨oc1, od1, .func (PySem.W.fnOf "__init__" "BadStep.__init__" (defArgs sBadStep) (defBody sBadStep) (defScope sBadStep) .none kV1 dc1 pm1 an1 cd1 ct1), sl1⟩)
    (d1 : PySem.W.codeIn K cd1 "BadStep.__init__" = true)
    (k1 : PySem.W.keepIn K (.ref f1) = true)
    (kk1 : PySem.W.keepIn K (.ref C1) = true)
    (T1 : PySem.W.typeIn K (.ref C1) = some (.type "type"))
    (a2 : PySem.W.nsIn K mainGlobals "BadClaim" = some (some (.ref C2)))
    (x2 : K.lookup C2 = some (excClassObj nm2 q2 C2 N2 bs2 [.ref B, .type "Exception", .type "BaseException", .type "object"] true sn2 sub2 ab2 col2 dd2 m2a m2b m2c m2d m2e "Exception.__new__"))
    (s2 : PySem.W.findIn K (.ref C2) "__setattr__" = some (some (.builtin "object.__setattr__")))
    (g2 : PySem.W.findIn K (.ref C2) "__getattribute__" = some (some (.builtin "BaseException.__getattribute__")))
    (h2 : PySem.W.findIn K (.ref C2) "__getattr__" = some none)
    (n2 : PySem.W.findIn K (.ref C2) "at" = some none)
    (c2 : PySem.W.findIn K (.ref C2) "__class__" = some (some (.builtin "object.__class__")))
    (i2 : PySem.W.findIn K (.ref C2) "__init__" = some (some (.ref f2)))
    (t2 : PySem.W.typeIn K (.ref f2) = some (.type "function"))
    (l2 : K.lookup f2 = some ⟨oc2, od2, .func (PySem.W.fnOf "__init__" "BadClaim.__init__" (defArgs sBadClaim) (defBody sBadClaim) (defScope sBadClaim) .none kV2 dc2 pm2 an2 cd2 ct2), sl2⟩)
    (d2 : PySem.W.codeIn K cd2 "BadClaim.__init__" = true)
    (k2 : PySem.W.keepIn K (.ref f2) = true)
    (kk2 : PySem.W.keepIn K (.ref C2) = true)
    (T2 : PySem.W.typeIn K (.ref C2) = some (.type "type"))
    (a3 : PySem.W.nsIn K mainGlobals "BadPaper" = some (some (.ref C3)))
    (x3 : K.lookup C3 = some (excClassObj nm3 q3 C3 N3 bs3 [.ref B, .type "Exception", .type "BaseException", .type "object"] true sn3 sub3 ab3 col3 dd3 m3a m3b m3c m3d m3e "Exception.__new__"))
    (s3 : PySem.W.findIn K (.ref C3) "__setattr__" = some (some (.builtin "object.__setattr__")))
    (g3 : PySem.W.findIn K (.ref C3) "__getattribute__" = some (some (.builtin "BaseException.__getattribute__")))
    (h3 : PySem.W.findIn K (.ref C3) "__getattr__" = some none)
    (n3 : PySem.W.findIn K (.ref C3) "at" = some none)
    (c3 : PySem.W.findIn K (.ref C3) "__class__" = some (some (.builtin "object.__class__")))
    (i3 : PySem.W.findIn K (.ref C3) "__init__" = some (some (.ref f3)))
    (t3 : PySem.W.typeIn K (.ref f3) = some (.type "function"))
    (l3 : K.lookup f3 = some ⟨oc3, od3, .func (PySem.W.fnOf "__init__" "BadPaper.__init__" (defArgs sBadPaper) (defBody sBadPaper) (defScope sBadPaper) .none kV3 dc3 pm3 an3 cd3 ct3), sl3⟩)
    (d3 : PySem.W.codeIn K cd3 "BadPaper.__init__" = true)
    (k3 : PySem.W.keepIn K (.ref f3) = true)
    (kk3 : PySem.W.keepIn K (.ref C3) = true)
    (T3 : PySem.W.typeIn K (.ref C3) = some (.type "type"))
    (a4 : PySem.W.nsIn K mainGlobals "BadLine" = some (some (.ref C4)))
    (x4 : K.lookup C4 = some (excClassObj nm4 q4 C4 N4 bs4 [.ref B, .type "Exception", .type "BaseException", .type "object"] true sn4 sub4 ab4 col4 dd4 m4a m4b m4c m4d m4e "Exception.__new__"))
    (s4 : PySem.W.findIn K (.ref C4) "__setattr__" = some (some (.builtin "object.__setattr__")))
    (g4 : PySem.W.findIn K (.ref C4) "__getattribute__" = some (some (.builtin "BaseException.__getattribute__")))
    (h4 : PySem.W.findIn K (.ref C4) "__getattr__" = some none)
    (n4 : PySem.W.findIn K (.ref C4) "at" = some none)
    (c4 : PySem.W.findIn K (.ref C4) "__class__" = some (some (.builtin "object.__class__")))
    (i4 : PySem.W.findIn K (.ref C4) "__init__" = some (some (.ref f4)))
    (t4 : PySem.W.typeIn K (.ref f4) = some (.type "function"))
    (l4 : K.lookup f4 = some ⟨oc4, od4, .func (PySem.W.fnOf "__init__" "BadLine.__init__" (defArgs sBadLine) (defBody sBadLine) (defScope sBadLine) .none kV4 dc4 pm4 an4 cd4 ct4), sl4⟩)
    (d4 : PySem.W.codeIn K cd4 "BadLine.__init__" = true)
    (k4 : PySem.W.keepIn K (.ref f4) = true)
    (kk4 : PySem.W.keepIn K (.ref C4) = true)
    (T4 : PySem.W.typeIn K (.ref C4) = some (.type "type"))
    (a5 : PySem.W.nsIn K mainGlobals "BadPoint" = some (some (.ref C5)))
    (x5 : K.lookup C5 = some (excClassObj nm5 q5 C5 N5 bs5 [.ref B, .type "Exception", .type "BaseException", .type "object"] true sn5 sub5 ab5 col5 dd5 m5a m5b m5c m5d m5e "Exception.__new__"))
    (s5 : PySem.W.findIn K (.ref C5) "__setattr__" = some (some (.builtin "object.__setattr__")))
    (g5 : PySem.W.findIn K (.ref C5) "__getattribute__" = some (some (.builtin "BaseException.__getattribute__")))
    (h5 : PySem.W.findIn K (.ref C5) "__getattr__" = some none)
    (n5 : PySem.W.findIn K (.ref C5) "name" = some none)
    (c5 : PySem.W.findIn K (.ref C5) "__class__" = some (some (.builtin "object.__class__")))
    (i5 : PySem.W.findIn K (.ref C5) "__init__" = some (some (.ref f5)))
    (t5 : PySem.W.typeIn K (.ref f5) = some (.type "function"))
    (l5 : K.lookup f5 = some ⟨oc5, od5, .func (PySem.W.fnOf "__init__" "BadPoint.__init__" (defArgs sBadPoint) (defBody sBadPoint) (defScope sBadPoint) .none kV5 dc5 pm5 an5 cd5 ct5), sl5⟩)
    (d5 : PySem.W.codeIn K cd5 "BadPoint.__init__" = true)
    (k5 : PySem.W.keepIn K (.ref f5) = true)
    (kk5 : PySem.W.keepIn K (.ref C5) = true)
    (T5 : PySem.W.typeIn K (.ref C5) = some (.type "type"))
    (a6 : PySem.W.nsIn K mainGlobals "Impossible" = some (some (.ref C6)))
    (x6 : K.lookup C6 = some (excClassObj nm6 q6 C6 N6 bs6 [.ref B, .type "Exception", .type "BaseException", .type "object"] true sn6 sub6 ab6 col6 dd6 m6a m6b m6c m6d m6e "Exception.__new__"))
    (s6 : PySem.W.findIn K (.ref C6) "__setattr__" = some (some (.builtin "object.__setattr__")))
    (g6 : PySem.W.findIn K (.ref C6) "__getattribute__" = some (some (.builtin "BaseException.__getattribute__")))
    (h6 : PySem.W.findIn K (.ref C6) "__getattr__" = some none)
    (n6 : PySem.W.findIn K (.ref C6) "name" = some none)
    (c6 : PySem.W.findIn K (.ref C6) "__class__" = some (some (.builtin "object.__class__")))
    (i6 : PySem.W.findIn K (.ref C6) "__init__" = some (some (.ref f6)))
    (t6 : PySem.W.typeIn K (.ref f6) = some (.type "function"))
    (l6 : K.lookup f6 = some ⟨oc6, od6, .func (PySem.W.fnOf "__init__" "Impossible.__init__" (defArgs sImpossible) (defBody sImpossible) (defScope sImpossible) .none kV6 dc6 pm6 an6 cd6 ct6), sl6⟩)
    (d6 : PySem.W.codeIn K cd6 "Impossible.__init__" = true)
    (k6 : PySem.W.keepIn K (.ref f6) = true)
    (kk6 : PySem.W.keepIn K (.ref C6) = true)
    (T6 : PySem.W.typeIn K (.ref C6) = some (.type "type"))
    (a7 : PySem.W.nsIn K mainGlobals "Broken" = some (some (.ref C7)))
    (x7 : K.lookup C7 = some (excClassObj nm7 q7 C7 N7 bs7 [.ref B, .type "Exception", .type "BaseException", .type "object"] true sn7 sub7 ab7 col7 dd7 m7a m7b m7c m7d m7e "Exception.__new__"))
    (s7 : PySem.W.findIn K (.ref C7) "__setattr__" = some (some (.builtin "object.__setattr__")))
    (g7 : PySem.W.findIn K (.ref C7) "__getattribute__" = some (some (.builtin "BaseException.__getattribute__")))
    (h7 : PySem.W.findIn K (.ref C7) "__getattr__" = some none)
    (n7 : PySem.W.findIn K (.ref C7) "name" = some none)
    (c7 : PySem.W.findIn K (.ref C7) "__class__" = some (some (.builtin "object.__class__")))
    (i7 : PySem.W.findIn K (.ref C7) "__init__" = some (some (.ref f7)))
    (t7 : PySem.W.typeIn K (.ref f7) = some (.type "function"))
    (l7 : K.lookup f7 = some ⟨oc7, od7, .func (PySem.W.fnOf "__init__" "Broken.__init__" (defArgs sBroken) (defBody sBroken) (defScope sBroken) .none kV7 dc7 pm7 an7 cd7 ct7), sl7⟩)
    (d7 : PySem.W.codeIn K cd7 "Broken.__init__" = true)
    (k7 : PySem.W.keepIn K (.ref f7) = true)
    (kk7 : PySem.W.keepIn K (.ref C7) = true)
    (T7 : PySem.W.typeIn K (.ref C7) = some (.type "type"))
    (a8 : PySem.W.nsIn K mainGlobals "TooMany" = some (some (.ref C8)))
    (x8 : K.lookup C8 = some (excClassObj nm8 q8 C8 N8 bs8 [.ref B, .type "Exception", .type "BaseException", .type "object"] true sn8 sub8 ab8 col8 dd8 m8a m8b m8c m8d m8e "Exception.__new__"))
    (s8 : PySem.W.findIn K (.ref C8) "__setattr__" = some (some (.builtin "object.__setattr__")))
    (g8 : PySem.W.findIn K (.ref C8) "__getattribute__" = some (some (.builtin "BaseException.__getattribute__")))
    (h8 : PySem.W.findIn K (.ref C8) "__getattr__" = some none)
    (n8 : PySem.W.findIn K (.ref C8) "word" = some none)
    (c8 : PySem.W.findIn K (.ref C8) "__class__" = some (some (.builtin "object.__class__")))
    (i8 : PySem.W.findIn K (.ref C8) "__init__" = some (some (.ref f8)))
    (t8 : PySem.W.typeIn K (.ref f8) = some (.type "function"))
    (l8 : K.lookup f8 = some ⟨oc8, od8, .func (PySem.W.fnOf "__init__" "TooMany.__init__" (defArgs sTooMany) (defBody sTooMany) (defScope sTooMany) .none kV8 dc8 pm8 an8 cd8 ct8), sl8⟩)
    (d8 : PySem.W.codeIn K cd8 "TooMany.__init__" = true)
    (k8 : PySem.W.keepIn K (.ref f8) = true)
    (kk8 : PySem.W.keepIn K (.ref C8) = true)
    (T8 : PySem.W.typeIn K (.ref C8) = some (.type "type"))
    (a9 : PySem.W.nsIn K mainGlobals "NothingThere" = some (some (.ref C9)))
    (x9 : K.lookup C9 = some (excClassObj nm9 q9 C9 N9 bs9 [.ref B, .type "Exception", .type "BaseException", .type "object"] true sn9 sub9 ab9 col9 dd9 m9a m9b m9c m9d m9e "Exception.__new__"))
    (s9 : PySem.W.findIn K (.ref C9) "__setattr__" = some (some (.builtin "object.__setattr__")))
    (g9 : PySem.W.findIn K (.ref C9) "__getattribute__" = some (some (.builtin "BaseException.__getattribute__")))
    (h9 : PySem.W.findIn K (.ref C9) "__getattr__" = some none)
    (n9 : PySem.W.findIn K (.ref C9) "word" = some none)
    (c9 : PySem.W.findIn K (.ref C9) "__class__" = some (some (.builtin "object.__class__")))
    (i9 : PySem.W.findIn K (.ref C9) "__init__" = some (some (.ref f9)))
    (t9 : PySem.W.typeIn K (.ref f9) = some (.type "function"))
    (l9 : K.lookup f9 = some ⟨oc9, od9, .func (PySem.W.fnOf "__init__" "NothingThere.__init__" (defArgs sNothingThere) (defBody sNothingThere) (defScope sNothingThere) .none kV9 dc9 pm9 an9 cd9 ct9), sl9⟩)
    (d9 : PySem.W.codeIn K cd9 "NothingThere.__init__" = true)
    (k9 : PySem.W.keepIn K (.ref f9) = true)
    (kk9 : PySem.W.keepIn K (.ref C9) = true)
    (T9 : PySem.W.typeIn K (.ref C9) = some (.type "type"))
    (a_flow : PySem.W.nsIn K mainGlobals "_law_flow" = some (some (.ref Fflow)))
    (l_flow : K.lookup Fflow = some ⟨oc_flow, od_flow, .func (PySem.W.fnOf "_law_flow" "_law_flow" (defArgs K0.sFlow) (defBody K0.sFlow) (defScope K0.sFlow) .none kV_flow dc_flow pm_flow an_flow cd_flow ct_flow), sl_flow⟩)
    (c_flow : PySem.W.codeIn K cd_flow "_law_flow" = true)
    (k_flow : PySem.W.keepIn K (.ref Fflow) = true)
    (a_load : PySem.W.nsIn K mainGlobals "_law_load" = some (some (.ref Fload)))
    (l_load : K.lookup Fload = some ⟨oc_load, od_load, .func (PySem.W.fnOf "_law_load" "_law_load" (defArgs K0.sLoad) (defBody K0.sLoad) (defScope K0.sLoad) .none kV_load dc_load pm_load an_load cd_load ct_load), sl_load⟩)
    (c_load : PySem.W.codeIn K cd_load "_law_load" = true)
    (k_load : PySem.W.keepIn K (.ref Fload) = true)
    (a_draw : PySem.W.nsIn K mainGlobals "_law_draw" = some (some (.ref Fdraw)))
    (l_draw : K.lookup Fdraw = some ⟨oc_draw, od_draw, .func (PySem.W.fnOf "_law_draw" "_law_draw" (defArgs K0.sDraw) (defBody K0.sDraw) (defScope K0.sDraw) .none kV_draw dc_draw pm_draw an_draw cd_draw ct_draw), sl_draw⟩)
    (c_draw : PySem.W.codeIn K cd_draw "_law_draw" = true)
    (k_draw : PySem.W.keepIn K (.ref Fdraw) = true)
    (a_pick : PySem.W.nsIn K mainGlobals "_law_pick" = some (some (.ref Fpick)))
    (l_pick : K.lookup Fpick = some ⟨oc_pick, od_pick, .func (PySem.W.fnOf "_law_pick" "_law_pick" (defArgs K0.sPick) (defBody K0.sPick) (defScope K0.sPick) .none kV_pick dc_pick pm_pick an_pick cd_pick ct_pick), sl_pick⟩)
    (c_pick : PySem.W.codeIn K cd_pick "_law_pick" = true)
    (k_pick : PySem.W.keepIn K (.ref Fpick) = true)
    (a_same : PySem.W.nsIn K mainGlobals "_law_same" = some (some (.ref Fsame)))
    (l_same : K.lookup Fsame = some ⟨oc_same, od_same, .func (PySem.W.fnOf "_law_same" "_law_same" (defArgs K0S.sSame) (defBody K0S.sSame) (defScope K0S.sSame) .none kV_same dc_same pm_same an_same cd_same ct_same), sl_same⟩)
    (c_same : PySem.W.codeIn K cd_same "_law_same" = true)
    (k_same : PySem.W.keepIn K (.ref Fsame) = true)
    (a_raise : PySem.W.nsIn K mainGlobals "_law_raise" = some (some (.ref Fraise)))
    (l_raise : K.lookup Fraise = some ⟨oc_raise, od_raise, .func (PySem.W.fnOf "_law_raise" "_law_raise" (defArgs sRaise) (defBody sRaise) (defScope sRaise) .none kV_raise dc_raise pm_raise an_raise cd_raise ct_raise), sl_raise⟩)
    (c_raise : PySem.W.codeIn K cd_raise "_law_raise" = true)
    (k_raise : PySem.W.keepIn K (.ref Fraise) = true)
    (a_kept : PySem.W.nsIn K mainGlobals "_law_kept" = some (some (.ref Fkept)))
    (l_kept : K.lookup Fkept = some ⟨oc_kept, od_kept, .func (PySem.W.fnOf "_law_kept" "_law_kept" (defArgs sKept) (defBody sKept) (defScope sKept) .none kV_kept dc_kept pm_kept an_kept cd_kept ct_kept), sl_kept⟩)
    (c_kept : PySem.W.codeIn K cd_kept "_law_kept" = true)
    (k_kept : PySem.W.keepIn K (.ref Fkept) = true)
    (a_classes : PySem.W.nsIn K mainGlobals "_law_classes" = some (some (.ref Fclasses)))
    (l_classes : K.lookup Fclasses = some ⟨oc_classes, od_classes, .func (PySem.W.fnOf "_law_classes" "_law_classes" (defArgs sClasses) (defBody sClasses) (defScope sClasses) .none kV_classes dc_classes pm_classes an_classes cd_classes ct_classes), sl_classes⟩)
    (c_classes : PySem.W.codeIn K cd_classes "_law_classes" = true)
    (k_classes : PySem.W.keepIn K (.ref Fclasses) = true)
    (a_given : PySem.W.nsIn K mainGlobals "_law_given" = some (some (.ref Fgiven)))
    (l_given : K.lookup Fgiven = some ⟨oc_given, od_given, .func (PySem.W.fnOf "_law_given" "_law_given" (defArgs sGiven) (defBody sGiven) (defScope sGiven) .none kV_given dc_given pm_given an_given cd_given ct_given), sl_given⟩)
    (c_given : PySem.W.codeIn K cd_given "_law_given" = true)
    (k_given : PySem.W.keepIn K (.ref Fgiven) = true)
    (a_law : PySem.W.nsIn K mainGlobals "law" = some (some (.ref Flaw)))
    (l_law : K.lookup Flaw = some ⟨oc_law, od_law, .func (PySem.W.fnOf "law" "law" (defArgs sLaw) (defBody sLaw) (defScope sLaw) .none kV_law dc_law pm_law an_law cd_law ct_law), sl_law⟩)
    (c_law : PySem.W.codeIn K cd_law "law" = true)
    (k_law : PySem.W.keepIn K (.ref Flaw) = true)
    (aB : PySem.W.nsIn K mainGlobals "FigureError" = some (some (.ref B)))
    (xB : PySem.W.isClsIn K B = true)
    (sB : PySem.W.subIn K (.ref B) (.type "BaseException") = some true)
    (gB : PySem.W.specialIn K (.ref B) "__getattribute__" = some (some (.builtin "type.__getattribute__")))
    (rB : PySem.W.readsIn (mc := .type "type") K B = true)
    (iB : PySem.W.findCls K (.ref B) (.type "type") "__init__" = some (.val (.builtin "Exception.__init__")))
    (tB : PySem.W.typeIn K (.ref B) = some (.type "type"))
    (oG : PySem.W.specialIn K (.builtin "object.__class__") "__get__" = some (some (.builtin "getset_descriptor.__get__")))
    (oT : PySem.W.takesIn K (.builtin "object.__class__") = some true)
    (z_len : PySem.W.nsIn K mainGlobals "len" = some none)
    (z_int : PySem.W.nsIn K mainGlobals "int" = some none)
    (z_abs : PySem.W.nsIn K mainGlobals "abs" = some none)
    (z_max : PySem.W.nsIn K mainGlobals "max" = some none)
    (z_list : PySem.W.nsIn K mainGlobals "list" = some none)
    (z_isinstance : PySem.W.nsIn K mainGlobals "isinstance" = some none)
    (z_ValueError : PySem.W.nsIn K mainGlobals "ValueError" = some none)
    (z_LookupError : PySem.W.nsIn K mainGlobals "LookupError" = some none)
    (z_ArithmeticError : PySem.W.nsIn K mainGlobals "ArithmeticError" = some none)
    (z_range : PySem.W.nsIn K mainGlobals "range" = some none)
    (z_tuple : PySem.W.nsIn K mainGlobals "tuple" = some none)
    (z_str : PySem.W.nsIn K mainGlobals "str" = some none)
    (z_bool : PySem.W.nsIn K mainGlobals "bool" = some none)
    (z_all : PySem.W.nsIn K mainGlobals "all" = some none)
    (ne : [B, C0, C1, C2, C3, C4, C5, C6, C7, C8, C9].Nodup) :
    ∃ fd : FuncData, (∀ (s : Shared) (v : Value), BindsTo s fd ⟨[v], []⟩ [("script", v)]) ∧ ∀ base : Heap, K.In base → base.Ns mainGlobals mg → FnOk l.prog w K mg base CX0 5 fa fd ["script"] (spLaw K) := by
  have e := hfa.symm.trans (PySem.W.mg_of X G a_law)
  cases e
  have E0 : ClsFacts K B C0 f0 "BadValue" "at" := ⟨a0, ⟨_, _, _, _, _, _, _, _, _, _, _, _, _, _, x0⟩, s0, g0, h0, n0, c0, i0, t0, kk0, T0⟩
  have F0 := fun_mk (st := sBadValue) l0 d0 k0
  have b0 := F0.binds (ps := ["self", "at"]) fun _ _ _ _ _ _ us hl => match us, hl with | [_, _], _ => rfl
  have E1 : ClsFacts K B C1 f1 "BadStep" "at" := ⟨a1, ⟨_, _, _, _, _, _, _, _, _, _, _, _, _, _, x1⟩, s1, g1, h1, n1, c1, i1, t1, kk1, T1⟩
  have F1 := fun_mk (st := sBadStep) l1 d1 k1
  have b1 := F1.binds (ps := ["self", "at"]) fun _ _ _ _ _ _ us hl => match us, hl with | [_, _], _ => rfl
  have E2 : ClsFacts K B C2 f2 "BadClaim" "at" := ⟨a2, ⟨_, _, _, _, _, _, _, _, _, _, _, _, _, _, x2⟩, s2, g2, h2, n2, c2, i2, t2, kk2, T2⟩
  have F2 := fun_mk (st := sBadClaim) l2 d2 k2
  have b2 := F2.binds (ps := ["self", "at"]) fun _ _ _ _ _ _ us hl => match us, hl with | [_, _], _ => rfl
  have E3 : ClsFacts K B C3 f3 "BadPaper" "at" := ⟨a3, ⟨_, _, _, _, _, _, _, _, _, _, _, _, _, _, x3⟩, s3, g3, h3, n3, c3, i3, t3, kk3, T3⟩
  have F3 := fun_mk (st := sBadPaper) l3 d3 k3
  have b3 := F3.binds (ps := ["self", "at"]) fun _ _ _ _ _ _ us hl => match us, hl with | [_, _], _ => rfl
  have E4 : ClsFacts K B C4 f4 "BadLine" "at" := ⟨a4, ⟨_, _, _, _, _, _, _, _, _, _, _, _, _, _, x4⟩, s4, g4, h4, n4, c4, i4, t4, kk4, T4⟩
  have F4 := fun_mk (st := sBadLine) l4 d4 k4
  have b4 := F4.binds (ps := ["self", "at"]) fun _ _ _ _ _ _ us hl => match us, hl with | [_, _], _ => rfl
  have E5 : ClsFacts K B C5 f5 "BadPoint" "name" := ⟨a5, ⟨_, _, _, _, _, _, _, _, _, _, _, _, _, _, x5⟩, s5, g5, h5, n5, c5, i5, t5, kk5, T5⟩
  have F5 := fun_mk (st := sBadPoint) l5 d5 k5
  have b5 := F5.binds (ps := ["self", "name"]) fun _ _ _ _ _ _ us hl => match us, hl with | [_, _], _ => rfl
  have E6 : ClsFacts K B C6 f6 "Impossible" "name" := ⟨a6, ⟨_, _, _, _, _, _, _, _, _, _, _, _, _, _, x6⟩, s6, g6, h6, n6, c6, i6, t6, kk6, T6⟩
  have F6 := fun_mk (st := sImpossible) l6 d6 k6
  have b6 := F6.binds (ps := ["self", "name"]) fun _ _ _ _ _ _ us hl => match us, hl with | [_, _], _ => rfl
  have E7 : ClsFacts K B C7 f7 "Broken" "name" := ⟨a7, ⟨_, _, _, _, _, _, _, _, _, _, _, _, _, _, x7⟩, s7, g7, h7, n7, c7, i7, t7, kk7, T7⟩
  have F7 := fun_mk (st := sBroken) l7 d7 k7
  have b7 := F7.binds (ps := ["self", "name"]) fun _ _ _ _ _ _ us hl => match us, hl with | [_, _], _ => rfl
  have E8 : ClsFacts K B C8 f8 "TooMany" "word" := ⟨a8, ⟨_, _, _, _, _, _, _, _, _, _, _, _, _, _, x8⟩, s8, g8, h8, n8, c8, i8, t8, kk8, T8⟩
  have F8 := fun_mk (st := sTooMany) l8 d8 k8
  have b8 := F8.binds (ps := ["self", "word"]) fun _ _ _ _ _ _ us hl => match us, hl with | [_, _], _ => rfl
  have E9 : ClsFacts K B C9 f9 "NothingThere" "word" := ⟨a9, ⟨_, _, _, _, _, _, _, _, _, _, _, _, _, _, x9⟩, s9, g9, h9, n9, c9, i9, t9, kk9, T9⟩
  have F9 := fun_mk (st := sNothingThere) l9 d9 k9
  have b9 := F9.binds (ps := ["self", "word"]) fun _ _ _ _ _ _ us hl => match us, hl with | [_, _], _ => rfl
  have Qflow := fun_mk (st := K0.sFlow) l_flow c_flow k_flow
  have bflow := Qflow.binds (ps := ["script"]) fun _ _ _ _ _ _ us hl => match us, hl with | [_], _ => rfl
  have Qload := fun_mk (st := K0.sLoad) l_load c_load k_load
  have bload := Qload.binds (ps := ["flow"]) fun _ _ _ _ _ _ us hl => match us, hl with | [_], _ => rfl
  have Qdraw := fun_mk (st := K0.sDraw) l_draw c_draw k_draw
  have bdraw := Qdraw.binds (ps := ["flow", "many"]) fun _ _ _ _ _ _ us hl => match us, hl with | [_, _], _ => rfl
  have Qpick := fun_mk (st := K0.sPick) l_pick c_pick k_pick
  have bpick := Qpick.binds (ps := ["flow", "things"]) fun _ _ _ _ _ _ us hl => match us, hl with | [_, _], _ => rfl
  have Qsame := fun_mk (st := K0S.sSame) l_same c_same k_same
  have bsame := Qsame.binds (ps := ["actual", "due"]) fun _ _ _ _ _ _ us hl => match us, hl with | [_, _], _ => rfl
  have Qraise := fun_mk (st := sRaise) l_raise c_raise k_raise
  have braise := Qraise.binds (ps := ["kind", "given"]) fun _ _ _ _ _ _ us hl => match us, hl with | [_, _], _ => rfl
  have Qkept := fun_mk (st := sKept) l_kept c_kept k_kept
  have bkept := Qkept.binds (ps := ["kind", "given"]) fun _ _ _ _ _ _ us hl => match us, hl with | [_, _], _ => rfl
  have Qclasses := fun_mk (st := sClasses) l_classes c_classes k_classes
  have bclasses := Qclasses.binds (ps := ["kind", "given"]) fun _ _ _ _ _ _ us hl => match us, hl with | [_, _], _ => rfl
  have Qgiven := fun_mk (st := sGiven) l_given c_given k_given
  have bgiven := Qgiven.binds (ps := ["flow", "kind"]) fun _ _ _ _ _ _ us hl => match us, hl with | [_, _], _ => rfl
  have Qlaw := fun_mk (st := sLaw) l_law c_law k_law
  have nd : ∀ i j : Nat, i < 10 → j < 10 → pick10 C0 C1 C2 C3 C4 C5 C6 C7 C8 C9 i = pick10 C0 C1 C2 C3 C4 C5 C6 C7 C8 C9 j → i = j := by
    intro i j hi hj e
    have p : ∀ k : Nat, k < 10 → [B, C0, C1, C2, C3, C4, C5, C6, C7, C8, C9][k + 1]? = some (pick10 C0 C1 C2 C3 C4 C5 C6 C7 C8 C9 k) := fun k hk => match k, hk with
      | 0, _ => rfl | 1, _ => rfl | 2, _ => rfl | 3, _ => rfl | 4, _ => rfl | 5, _ => rfl | 6, _ => rfl | 7, _ => rfl | 8, _ => rfl | 9, _ => rfl
      | (k + 10), hk => absurd hk (by omega)
    have q := L2.nd_ix ne (p i hi) ((p j hj).trans (by rw [e]))
    omega
  have nB : ∀ i : Nat, i < 10 → pick10 C0 C1 C2 C3 C4 C5 C6 C7 C8 C9 i ≠ B := by
    intro i hi e
    have p : [B, C0, C1, C2, C3, C4, C5, C6, C7, C8, C9][i + 1]? = some (pick10 C0 C1 C2 C3 C4 C5 C6 C7 C8 C9 i) := match i, hi with
      | 0, _ => rfl | 1, _ => rfl | 2, _ => rfl | 3, _ => rfl | 4, _ => rfl | 5, _ => rfl | 6, _ => rfl | 7, _ => rfl | 8, _ => rfl | 9, _ => rfl
      | (k + 10), hk => absurd hk (by omega)
    have q := L2.nd_ix (i := i + 1) (j := 0) ne p (by rw [e]; rfl)
    omega
  have cf : ∀ k : Nat, k < 10 → ClsFacts K B (pick10 C0 C1 C2 C3 C4 C5 C6 C7 C8 C9 k) (pick10 f0 f1 f2 f3 f4 f5 f6 f7 f8 f9 k) (nmE k) (flE k) := fun k hk => match k, hk with
    | 0, _ => E0 | 1, _ => E1 | 2, _ => E2 | 3, _ => E3 | 4, _ => E4 | 5, _ => E5 | 6, _ => E6 | 7, _ => E7 | 8, _ => E8 | 9, _ => E9
    | (k + 10), hk => absurd hk (by omega)
  have clB : (PySem.W.clsIn K B).isSome = true := xB
  refine ⟨PySem.W.fnOf "law" "law" (defArgs sLaw) (defBody sLaw) (defScope sLaw) .none kV_law dc_law pm_law an_law cd_law ct_law, fun s v => .of_eq rfl, fun base _ _ => ?_⟩
  have TE : ErrTxt K mg B := ⟨⟨gB, rB, iB⟩, PySem.W.mg_of X G aB⟩
  have same : ∀ j k : Nat, j < 10 → k < 10 → decide (k = j) = decide (pick10 C0 C1 C2 C3 C4 C5 C6 C7 C8 C9 k = pick10 C0 C1 C2 C3 C4 C5 C6 C7 C8 C9 j) := fun j k hj hk => decide_eq_decide.mpr ⟨fun q => by rw [q], nd k j hk hj⟩
  have some_ : ∀ j : Nat, j < 10 → (PySem.W.clsIn K (pick10 C0 C1 C2 C3 C4 C5 C6 C7 C8 C9 j)).isSome = true := fun j hj => by
    obtain ⟨cd, q, _⟩ := (cf j hj).cls
    rw [q]
    rfl
  have U : Errs l.prog w K mg base B (pick10 C0 C1 C2 C3 C4 C5 C6 C7 C8 C9) (pick10 f0 f1 f2 f3 f4 f5 f6 f7 f8 f9) (pickFd _ _ _ _ _ _ _ _ _ _) := {
    gC := fun k hk => PySem.W.mg_of X G (cf k hk).gC
    err := fun k hk => (cf k hk).err
    iC := fun k hk => (cf k hk).iC
    tI := fun k hk => (cf k hk).tI
    no := fun k hk => (cf k hk).nb
    bd := fun k hk => match k, hk with
      | 0, _ => b0 | 1, _ => b1 | 2, _ => b2 | 3, _ => b3 | 4, _ => b4 | 5, _ => b5 | 6, _ => b6 | 7, _ => b7 | 8, _ => b8 | 9, _ => b9
      | (k + 10), hk => absurd hk (by omega)
    ini := fun k hk => match k, hk with
      | 0, _ => iniBadValue F0 TE | 1, _ => iniBadStep F1 TE | 2, _ => iniBadClaim F2 TE | 3, _ => iniBadPaper F3 TE | 4, _ => iniBadLine F4 TE | 5, _ => iniBadPoint F5 TE | 6, _ => iniImpossible F6 TE | 7, _ => iniBroken F7 TE | 8, _ => iniTooMany F8 TE | 9, _ => iniNothingThere F9 TE
      | (k + 10), hk => absurd hk (by omega)
    gB := PySem.W.mg_of X G aB
    exm := fun j k hj hk => by
      rw [same j k hj hk]
      exact exm_of_cls (cf j hj).err.exC (some_ j hj) (cf j hj).tC ((cf k hk).other (nB j hj))
    exB := fun k hk => exm_of_cls sB clB tB (((cf k hk).sub _).trans (by simp [line]))
    kit := fun j k hj hk => by
      rw [same j k hj hk]
      exact kit_of_cls (some_ j hj) (cf j hj).tC ((cf k hk).other (nB j hj)) (fun q => decide_eq_true q)
    kiA := fun k hk => by
      have z : ∀ T : String, PySem.W.kitMeta T = true → ((line B (pick10 C0 C1 C2 C3 C4 C5 C6 C7 C8 C9 k)).contains (.type T)) = false → PySem.W.kitOne K (.ref (pick10 C0 C1 C2 C3 C4 C5 C6 C7 C8 C9 k)) (.type T) = some false := fun T h1 h2 => by
        unfold PySem.W.kitOne
        rw [if_neg (by simp)]
        show (if PySem.W.kitMeta T = true then PySem.W.subIn K _ (.type T) else none) = _
        rw [if_pos h1, (cf k hk).sub, h2]
      exact kitAny_cons (z _ (by decide +kernel) (by simp [line])) (fun _ => kitAny_cons (z _ (by decide +kernel) (by simp [line])) (fun _ => kitAny_cons (z _ (by decide +kernel) (by simp [line])) (fun _ => kitAny_nil) (fun q => nomatch q)) (fun q => nomatch q)) (fun q => nomatch q)
    ask := fun k hk => (cf k hk).ask oG oT
    xf := fun k hk => (cf k hk).xf }
  have mz : ∀ {x : Str}, PySem.W.nsIn K mainGlobals x = some none → mg x = none := fun q => PySem.W.mg_none_of X G q
  have TF : K0.FlowTxt mg Fload Fdraw K := ⟨mz z_len, mz z_int, mz z_abs, mz z_max, mz z_list, PySem.W.mg_of X G a_load, k_load, PySem.W.mg_of X G a_draw, k_draw⟩
  have GD : FnOk l.prog w K mg base CX0 2 Fdraw _ ["flow", "many"] K0.spDraw := K0.ok_draw Qdraw Qload bload TF
  have GP : FnOk l.prog w K mg base CX0 3 Fpick _ ["flow", "things"] K0.spPick := K0.ok_pick Qpick GD bdraw TF
  have GF : FnOk l.prog w K mg base CX0 1 Fflow _ ["script"] (K0.spFlow K) := K0.ok_flow Qflow TF
  have TS : K0S.SameTxt K mg Fsame := ⟨mz z_isinstance, mz z_tuple, mz z_list, mz z_str, mz z_bool, mz z_int, mz z_len, mz z_all, mz z_range, PySem.W.mg_of X G a_same, k_same⟩
  have GS : FnOk l.prog w K mg base CX0 4 Fsame _ ["actual", "due"] (K0S.spSame 3) := K0S.ok_sameS Qsame bsame TS (K0S.ok_sameS Qsame bsame TS (K0S.ok_sameS Qsame bsame TS (K0S.ok_same0 Qsame TS)))
  have TL : LawTxt l.prog w K mg base B (pick10 C0 C1 C2 C3 C4 C5 C6 C7 C8 C9) (pick10 f0 f1 f2 f3 f4 f5 f6 f7 f8 f9) _ Fraise := ⟨U, PySem.W.mg_of X G a_raise, k_raise, mz z_isinstance, mz z_ValueError, mz z_LookupError, mz z_ArithmeticError, mz z_range⟩
  have GR := ok_raise (P := l.prog) (w := w) (base := base) Qraise U
  have GK := ok_kept Qkept TL GR braise
  have GC := ok_classes Qclasses TL GR braise
  have GG := ok_given Qgiven ⟨PySem.W.mg_of X G a_draw, k_draw, PySem.W.mg_of X G a_pick, k_pick⟩ GD bdraw GP bpick
  exact ok_law Qlaw ⟨mz z_range, PySem.W.mg_of X G a_flow, k_flow, PySem.W.mg_of X G a_given, k_given, PySem.W.mg_of X G a_same, k_same, PySem.W.mg_of X G a_kept, k_kept, PySem.W.mg_of X G a_classes, k_classes⟩ GF bflow GG bgiven GS bsame GK bkept GC bclasses
end K0E

set_option Elab.async false
set_option linter.all false
set_option maxRecDepth 100000
namespace K0E
open PySem L2
theorem walk {l : PySem.W.OpenLaw} {q : Program} {loose : List Str} {XP : (Str → Option Value) → Heap → Prop} {YP : World → Heap → Prop} {d : DefRec} {K : Params → PySem.W.Frag} (hn : l.most = some 63) (hdf : d.params.defaults = [])
    (hY : ∀ (w : World) (h : Heap), YP w h → (K w.params).In h)
    (F : ∀ (w : World) (mg : Str → Option Value) (fa : Addr) (h : Heap), (K w.params).In h → h.Ns mainGlobals mg → mg d.name = some (.ref fa) →
      ∃ fd : FuncData, (∀ (s : Shared) (u : Value), BindsTo s fd ⟨[u], []⟩ [("script", u)]) ∧ ∀ base : Heap, (K w.params).In base → base.Ns mainGlobals mg → FnOk l.prog w (K w.params) mg base CX0 5 fa fd ["script"] (spLaw (K w.params))) :
    PySem.W.WalkO q loose XP YP l.row.toRowW d [] (fun f vs => PySem.call f vs) :=
  L2.walk_of (n := 63) (k := 5) (x := "script") (CX := fun _ => CX0) (sp := fun w => spLaw (K w.params)) hn (by decide) hdf ⟨rfl, by decide, by decide⟩ hY F (fun _ _ a ns _ _ hS => ⟨a, ns, rfl, hS, fun _ => rfl⟩) fun _ _ _ _ _ z => z
end K0E
open PySem PySem.W PyProof.Rows in
set_option maxRecDepth 100000 in
set_option maxHeartbeats 0 in
theorem PySem.Challenge.cw_figurehold_k00_errors_holds : PySem.Challenge.rw_figurehold_k00_errors.Holds := by
  w_on; o_law; k_head; (case hw => w_witness2)
  k_fill
  refine K0E.walk (l := PySem.Challenge.rw_figurehold_k00_errors) rfl rfl (fun w h Y => PySem.W.kIn_of Y) ?F
  case F =>
    intro w mg fa h KX G hmg
    refine' K0E.all_mk KX G hmg ?zz_a0 ?zz_x0 ?zz_s0 ?zz_g0 ?zz_h0 ?zz_n0 ?zz_c0 ?zz_i0 ?zz_t0 ?zz_l0 ?zz_d0 ?zz_k0 ?zz_kk0 ?zz_T0 ?zz_a1 ?zz_x1 ?zz_s1 ?zz_g1 ?zz_h1 ?zz_n1 ?zz_c1 ?zz_i1 ?zz_t1 ?zz_l1 ?zz_d1 ?zz_k1 ?zz_kk1 ?zz_T1 ?zz_a2 ?zz_x2 ?zz_s2 ?zz_g2 ?zz_h2 ?zz_n2 ?zz_c2 ?zz_i2 ?zz_t2 ?zz_l2 ?zz_d2 ?zz_k2 ?zz_kk2 ?zz_T2 ?zz_a3 ?zz_x3 ?zz_s3 ?zz_g3 ?zz_h3 ?zz_n3 ?zz_c3 ?zz_i3 ?zz_t3 ?zz_l3 ?zz_d3 ?zz_k3 ?zz_kk3 ?zz_T3 ?zz_a4 ?zz_x4 ?zz_s4 ?zz_g4 ?zz_h4 ?zz_n4 ?zz_c4 ?zz_i4 ?zz_t4 ?zz_l4 ?zz_d4 ?zz_k4 ?zz_kk4 ?zz_T4 ?zz_a5 ?zz_x5 ?zz_s5 ?zz_g5 ?zz_h5 ?zz_n5 ?zz_c5 ?zz_i5 ?zz_t5 ?zz_l5 ?zz_d5 ?zz_k5 ?zz_kk5 ?zz_T5 ?zz_a6 ?zz_x6 ?zz_s6 ?zz_g6 ?zz_h6 ?zz_n6 ?zz_c6 ?zz_i6 ?zz_t6 ?zz_l6 ?zz_d6 ?zz_k6 ?zz_kk6 ?zz_T6 ?zz_a7 ?zz_x7 ?zz_s7 ?zz_g7 ?zz_h7 ?zz_n7 ?zz_c7 ?zz_i7 ?zz_t7 ?zz_l7 ?zz_d7 ?zz_k7 ?zz_kk7 ?zz_T7 ?zz_a8 ?zz_x8 ?zz_s8 ?zz_g8 ?zz_h8 ?zz_n8 ?zz_c8 ?zz_i8 ?zz_t8 ?zz_l8 ?zz_d8 ?zz_k8 ?zz_kk8 ?zz_T8 ?zz_a9 ?zz_x9 ?zz_s9 ?zz_g9 ?zz_h9 ?zz_n9 ?zz_c9 ?zz_i9 ?zz_t9 ?zz_l9 ?zz_d9 ?zz_k9 ?zz_kk9 ?zz_T9 ?zz_a_flow ?zz_l_flow ?zz_c_flow ?zz_k_flow ?zz_a_load ?zz_l_load ?zz_c_load ?zz_k_load ?zz_a_draw ?zz_l_draw ?zz_c_draw ?zz_k_draw ?zz_a_pick ?zz_l_pick ?zz_c_pick ?zz_k_pick ?zz_a_same ?zz_l_same ?zz_c_same ?zz_k_same ?zz_a_raise ?zz_l_raise ?zz_c_raise ?zz_k_raise ?zz_a_kept ?zz_l_kept ?zz_c_kept ?zz_k_kept ?zz_a_classes ?zz_l_classes ?zz_c_classes ?zz_k_classes ?zz_a_given ?zz_l_given ?zz_c_given ?zz_k_given ?zz_a_law ?zz_l_law ?zz_c_law ?zz_k_law ?zz_aB ?zz_xB ?zz_sB ?zz_gB ?zz_rB ?zz_iB ?zz_tB ?zz_oG ?zz_oT ?zz_z_len ?zz_z_int ?zz_z_abs ?zz_z_max ?zz_z_list ?zz_z_isinstance ?zz_z_ValueError ?zz_z_LookupError ?zz_z_ArithmeticError ?zz_z_range ?zz_z_tuple ?zz_z_str ?zz_z_bool ?zz_z_all ?zz_ne
    (case zz_a0 => k_is)
    (case zz_x0 => k_is)
    (case zz_s0 => k_is)
    (case zz_g0 => k_is)
    (case zz_h0 => k_is)
    (case zz_n0 => k_is)
    (case zz_c0 => k_is)
    (case zz_i0 => k_is)
    (case zz_t0 => k_is)
    (case zz_l0 => k_is)
    (case zz_d0 => k_is)
    (case zz_k0 => k_is)
    (case zz_kk0 => k_is)
    (case zz_T0 => k_is)
    (case zz_a1 => k_is)
    (case zz_x1 => k_is)
    (case zz_s1 => k_is)
    (case zz_g1 => k_is)
    (case zz_h1 => k_is)
    (case zz_n1 => k_is)
    (case zz_c1 => k_is)
    (case zz_i1 => k_is)
    (case zz_t1 => k_is)
    (case zz_l1 => k_is)
    (case zz_d1 => k_is)
    (case zz_k1 => k_is)
    (case zz_kk1 => k_is)
    (case zz_T1 => k_is)
    (case zz_a2 => k_is)
    (case zz_x2 => k_is)
    (case zz_s2 => k_is)
    (case zz_g2 => k_is)
    (case zz_h2 => k_is)
    (case zz_n2 => k_is)
    (case zz_c2 => k_is)
    (case zz_i2 => k_is)
    (case zz_t2 => k_is)
    (case zz_l2 => k_is)
    (case zz_d2 => k_is)
    (case zz_k2 => k_is)
    (case zz_kk2 => k_is)
    (case zz_T2 => k_is)
    (case zz_a3 => k_is)
    (case zz_x3 => k_is)
    (case zz_s3 => k_is)
    (case zz_g3 => k_is)
    (case zz_h3 => k_is)
    (case zz_n3 => k_is)
    (case zz_c3 => k_is)
    (case zz_i3 => k_is)
    (case zz_t3 => k_is)
    (case zz_l3 => k_is)
    (case zz_d3 => k_is)
    (case zz_k3 => k_is)
    (case zz_kk3 => k_is)
    (case zz_T3 => k_is)
    (case zz_a4 => k_is)
    (case zz_x4 => k_is)
    (case zz_s4 => k_is)
    (case zz_g4 => k_is)
    (case zz_h4 => k_is)
    (case zz_n4 => k_is)
    (case zz_c4 => k_is)
    (case zz_i4 => k_is)
    (case zz_t4 => k_is)
    (case zz_l4 => k_is)
    (case zz_d4 => k_is)
    (case zz_k4 => k_is)
    (case zz_kk4 => k_is)
    (case zz_T4 => k_is)
    (case zz_a5 => k_is)
    (case zz_x5 => k_is)
    (case zz_s5 => k_is)
    (case zz_g5 => k_is)
    (case zz_h5 => k_is)
    (case zz_n5 => k_is)
    (case zz_c5 => k_is)
    (case zz_i5 => k_is)
    (case zz_t5 => k_is)
    (case zz_l5 => k_is)
    (case zz_d5 => k_is)
    (case zz_k5 => k_is)
    (case zz_kk5 => k_is)
    (case zz_T5 => k_is)
    (case zz_a6 => k_is)
    (case zz_x6 => k_is)
    (case zz_s6 => k_is)
    (case zz_g6 => k_is)
    (case zz_h6 => k_is)
    (case zz_n6 => k_is)
    (case zz_c6 => k_is)
    (case zz_i6 => k_is)
    (case zz_t6 => k_is)
    (case zz_l6 => k_is)
    (case zz_d6 => k_is)
    (case zz_k6 => k_is)
    (case zz_kk6 => k_is)
    (case zz_T6 => k_is)
    (case zz_a7 => k_is)
    (case zz_x7 => k_is)
    (case zz_s7 => k_is)
    (case zz_g7 => k_is)
    (case zz_h7 => k_is)
    (case zz_n7 => k_is)
    (case zz_c7 => k_is)
    (case zz_i7 => k_is)
    (case zz_t7 => k_is)
    (case zz_l7 => k_is)
    (case zz_d7 => k_is)
    (case zz_k7 => k_is)
    (case zz_kk7 => k_is)
    (case zz_T7 => k_is)
    (case zz_a8 => k_is)
    (case zz_x8 => k_is)
    (case zz_s8 => k_is)
    (case zz_g8 => k_is)
    (case zz_h8 => k_is)
    (case zz_n8 => k_is)
    (case zz_c8 => k_is)
    (case zz_i8 => k_is)
    (case zz_t8 => k_is)
    (case zz_l8 => k_is)
    (case zz_d8 => k_is)
    (case zz_k8 => k_is)
    (case zz_kk8 => k_is)
    (case zz_T8 => k_is)
    (case zz_a9 => k_is)
    (case zz_x9 => k_is)
    (case zz_s9 => k_is)
    (case zz_g9 => k_is)
    (case zz_h9 => k_is)
    (case zz_n9 => k_is)
    (case zz_c9 => k_is)
    (case zz_i9 => k_is)
    (case zz_t9 => k_is)
    (case zz_l9 => k_is)
    (case zz_d9 => k_is)
    (case zz_k9 => k_is)
    (case zz_kk9 => k_is)
    (case zz_T9 => k_is)
    (case zz_a_flow => k_is)
    (case zz_l_flow => k_is)
    (case zz_c_flow => k_is)
    (case zz_k_flow => k_is)
    (case zz_a_load => k_is)
    (case zz_l_load => k_is)
    (case zz_c_load => k_is)
    (case zz_k_load => k_is)
    (case zz_a_draw => k_is)
    (case zz_l_draw => k_is)
    (case zz_c_draw => k_is)
    (case zz_k_draw => k_is)
    (case zz_a_pick => k_is)
    (case zz_l_pick => k_is)
    (case zz_c_pick => k_is)
    (case zz_k_pick => k_is)
    (case zz_a_same => k_is)
    (case zz_l_same => k_is)
    (case zz_c_same => k_is)
    (case zz_k_same => k_is)
    (case zz_a_raise => k_is)
    (case zz_l_raise => k_is)
    (case zz_c_raise => k_is)
    (case zz_k_raise => k_is)
    (case zz_a_kept => k_is)
    (case zz_l_kept => k_is)
    (case zz_c_kept => k_is)
    (case zz_k_kept => k_is)
    (case zz_a_classes => k_is)
    (case zz_l_classes => k_is)
    (case zz_c_classes => k_is)
    (case zz_k_classes => k_is)
    (case zz_a_given => k_is)
    (case zz_l_given => k_is)
    (case zz_c_given => k_is)
    (case zz_k_given => k_is)
    (case zz_a_law => k_is)
    (case zz_l_law => k_is)
    (case zz_c_law => k_is)
    (case zz_k_law => k_is)
    (case zz_aB => k_is)
    (case zz_xB => k_is)
    (case zz_sB => k_is)
    (case zz_gB => k_is)
    (case zz_rB => k_is)
    (case zz_iB => k_is)
    (case zz_tB => k_is)
    (case zz_oG => k_is)
    (case zz_oT => k_is)
    (case zz_z_len => k_is)
    (case zz_z_int => k_is)
    (case zz_z_abs => k_is)
    (case zz_z_max => k_is)
    (case zz_z_list => k_is)
    (case zz_z_isinstance => k_is)
    (case zz_z_ValueError => k_is)
    (case zz_z_LookupError => k_is)
    (case zz_z_ArithmeticError => k_is)
    (case zz_z_range => k_is)
    (case zz_z_tuple => k_is)
    (case zz_z_str => k_is)
    (case zz_z_bool => k_is)
    (case zz_z_all => k_is)
    (case zz_ne => decide)
#print axioms PySem.Challenge.cw_figurehold_k00_errors_holds

