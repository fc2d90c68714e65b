import PyProof.Rows.All
import Wide.All
import OpenK.AllK
import Wide.FinOn
import HandS.ForMost
import HandS.IsInst
import KE.OsScanText
import HandS.Codes
import HandS.Conv
import HandS.StrMore
import KE.KStrWords
import KE.KxText
import HandS.SortInts
import HandS.More
import HandS.Sort
import HandS.ClsMeth
import PySem.Challenge.RW_needonce_k65_heap_by_model
set_option Elab.async false
set_option maxRecDepth 100000
set_option maxHeartbeats 4000000
/-! Part A: how defs are called, the drawing of numbers from the script. -/
namespace Toy
open PySem L2
open PyProof.Rows (envOfC)
def topS (i : Nat) : Stmt := PySem.Challenge.pw_needonce_k65_heap_by_model.main.body.getD i (.Pass ⟨0, 0, 0, 0⟩)
theorem boot_min : bootBuiltins "min" = some (.builtin "min") := by decide +kernel
theorem boot_isinstance : bootBuiltins "isinstance" = some (.builtin "isinstance") := by decide +kernel
theorem boot_abs : bootBuiltins "abs" = some (.builtin "abs") := by decide +kernel
theorem boot_int : bootBuiltins "int" = some (.type "int") := by decide +kernel
theorem boot_list : bootBuiltins "list" = some (.type "list") := by decide +kernel
/-- a written row of texts: what it is -/
def tStrs (zs : List Str) : TA := fun _ H Q => Q (zs.map V.str) H
def strE : Expr → Option Str
  | .Constant (.str z) _ _ => some z
  | _ => none
theorem strE_is {e : Expr} {z : Str} (h : strE e = some z) : ∃ j pos, e = .Constant (.str z) j pos := by
  unfold strE at h
  split at h
  · cases h
    exact ⟨_, _, rfl⟩
  · cases h
/-- a written row of texts -/
theorem pa_strs {X : Cx} : ∀ {es : List Expr} {zs : List Str}, es.map strE = zs.map some → PA X es (tStrs zs)
  | [], [], _ => pa_nil
  | [], _ :: _, h => by cases h
  | _ :: _, [], h => by cases h
  | e :: es, z :: zs, h => by
    rw [List.map_cons, List.map_cons] at h
    obtain ⟨h1, h2⟩ := List.cons.inj h
    obtain ⟨j, pos, rfl⟩ := strE_is h1
    exact pa_cons pe_str (pa_strs h2)
theorem strs_read {zs : List Str} {σ : L2.St} {H : Hp} {Q : List V → Hp → Prop} (h : Q (zs.map V.str) H) : tStrs zs σ H Q := h
/-- what the proofs ask of the module's names -/
structure TxtD (mg : Str → Option Value) : Prop where
  zlen : mg "len" = none
  zint : mg "int" = none
  zrange : mg "range" = none
  zabs : mg "abs" = none
section
variable {P : Program} {w : World} {K : PySem.W.Frag} {mg : Str → Option Value} {base : Heap} 
/-- a def as one that may be called by its name -/
theorem cal_of {x : Str} {st : Stmt} {f : Addr} {fd : FuncData} {N ps : List Str} {k : Nat} {sp : Sp} (F : Fun K x x st f fd) (hm : mg x = some (.ref f)) (b : Binds K fd ps []) (S : FnScope N ps (defScope st)) (len : ∀ vs H Q E, sp vs H Q E → vs.length = ps.length)
    (hbody : ∀ (cdv : Value) (A : Around) (outer : List Env) (s : Shared) (H : Hp) (vs : List V) (Q : VK) (E : XK), Room k (A.deeper (envOfC x (defScope st) s.heap.objs.size f cdv)) → sp vs H Q E →
      ∃ t, PSs (cxOf CX0 P w K mg base N x (defScope st) f cdv A outer s H E).nox (defBody st) t ∧ t { nx := fun _ H' => Q .non H', rt := Q } (start N vs) H) : C8.Cal P w K mg base (k + 1) x sp [] :=
  ⟨f, fd, ps, [], F.ok S len hbody, hm, F.kp, b, .nil⟩
theorem same_new {H : Hp} {p : Addr} (h : H p = none) (o : HO) : Same H (upd H p o) := fun b u q => by rw [upd_ne (ne_of_none q h)]; exact q
theorem same_upd {H H' : Hp} {p : Addr} (h : H p = none) (s : Same H H') (o : HO) : Same H (upd H' p o) := fun b u q => by rw [upd_ne (ne_of_none q h)]; exact s b u q
theorem szl {n : Nat} (h : n ≤ 100000) : n < sizeLine := Nat.lt_of_le_of_lt h (by decide)
theorem at_ok {α : Type} {xs : List α} {k : Nat} (h : k < xs.length) : atI xs (0 + (k : Int)) = some xs[k] := by
  rw [Int.zero_add]
  exact atI_nat (List.getElem?_eq_getElem h)
theorem at_int {ns : List Int} {i : Int} (h0 : 0 ≤ i) (h1 : i < (ns.length : Int)) : ∃ v : Int, atI (ns.map V.int) i = some (.int v) := by
  have hk : i.toNat < ns.length := by omega
  refine ⟨ns[i.toNat], ?_⟩
  have q : atI (ns.map V.int) ((i.toNat : Nat) : Int) = some (.int ns[i.toNat]) := atI_nat (by rw [List.getElem?_map, List.getElem?_eq_getElem hk] <;> rfl)
  rw [show ((i.toNat : Nat) : Int) = i by omega] at q
  exact q

/-! ### the draws of a script -/
def dk2 (r : Addr) (i : Int) : List (Key × V) := [(Sum.inr "draws", .ref r), (Sum.inr "at", .int i)]
theorem nk_da : ¬ (Sum.inr ("draws" : Str) : Key) = Sum.inr ("at" : Str) := by decide +kernel
theorem dk_draws (r : Addr) (i : Int) : valV (dk2 r i) (Sum.inr "draws" : Key) = some (.ref r) := valV_pos rfl
theorem dk_at (r : Addr) (i : Int) : valV (dk2 r i) (Sum.inr "at" : Key) = some (.int i) := (valV_neg nk_da).trans (valV_pos rfl)
theorem dk_put (r : Addr) (i j : Int) : putK (dk2 r i) (Sum.inr "at" : Key) (.int j) = dk2 r j := by
  have h1 : ¬ ("draws" : Str) = "at" := by decide +kernel
  simp [putK, dk2, h1]
theorem dk_merge (r : Addr) : mergeK [] [(Sum.inr "draws", .ref r), (Sum.inr "at", .int 0)] = dk2 r 0 := by
  have h1 : ¬ ("draws" : Str) = "at" := by decide +kernel
  simp [mergeK, putK, dk2, h1]
/-- a reader of draws stands at p -/
def DrawsAt (H : Hp) (p r : Addr) : Prop := ∃ (row : List Int) (i : Nat), H p = some (.dK (dk2 r (i : Int))) ∧ H r = some (.lst (row.map V.int))
theorem DrawsAt.same {H H' : Hp} {p r : Addr} (d : DrawsAt H p r) (s : Same H H') : DrawsAt H' p r := by
  obtain ⟨row, i, h1, h2⟩ := d
  exact ⟨row, i, s _ _ h1, s _ _ h2⟩
theorem DrawsAt.fresh {H : Hp} {p r x : Addr} (d : DrawsAt H p r) (hx : H x = none) : x ≠ p ∧ x ≠ r := by
  obtain ⟨row, i, h1, h2⟩ := d
  exact ⟨fun e => (by rw [e, h1] at hx; cases hx), fun e => (by rw [e, h2] at hx; cases hx)⟩
theorem DrawsAt.off {H : Hp} {p r x : Addr} (d : DrawsAt H p r) (h1 : x ≠ p) (h2 : x ≠ r) (o : HO) : DrawsAt (upd H x o) p r := by
  obtain ⟨row, i, g1, g2⟩ := d
  exact ⟨row, i, by rw [upd_ne h1.symm]; exact g1, by rw [upd_ne h2.symm]; exact g2⟩
/-- all but p stays -/
def Keep (p : Addr) (H H' : Hp) : Prop := ∀ b o, b ≠ p → H b = some o → H' b = some o
abbrev sNext : Stmt := topS 6
theorem scNext : FnScope ["w", "many"] ["w", "many"] (defScope sNext) := ⟨rfl, rfl, rfl, by decide +kernel, rfl, by decide +kernel, by decide +kernel⟩
/-- some number below m; the reader moves on -/
def spNext : Sp := fun vs H Q _ => ∃ (p r : Addr) (m : Int), vs = [.ref p, .int m] ∧ 0 < m ∧ DrawsAt H p r ∧ ∀ (n : Int) (H' : Hp), 0 ≤ n → n < m → Keep p H H' → DrawsAt H' p r → Q (.int n) H'
theorem c_next {f : Addr} {fd : FuncData} (T : TxtD mg) (F : Fun K "_law_next" "_law_next" sNext f fd) (b : Binds K fd ["w", "many"] []) (hm : mg "_law_next" = some (.ref f)) : C8.Cal P w K mg base 2 "_law_next" spNext [] := by
  refine cal_of F hm b scNext (fun vs H Q E h => ?_) (fun cdv A outer s H vs Q E hr h => ?_)
  · obtain ⟨p, r, m, rfl, _⟩ := h
    rfl
  obtain ⟨p, r, m, rfl, hm0, ⟨row, i, hp, hrow⟩, q⟩ := h
  have hu := hu_of hr
  have npr : r ≠ p := ne_of hrow hp (by intro z; cases z)
  refine ⟨_, (pss_cons (ps_daug hu (pv 0) pe_str pe_int ip_add (fun _ _ _ => rfl))
    (pss_cons (ps_if (pt_cmpR op_gt (pe_dget hu (pv 0) pe_str (fun _ _ => rfl)) (pe_callB call_len_seq rfl T.zlen PySem.boot_len (pa_cons (pe_dget hu (pv 0) pe_str (fun _ _ => rfl)) pa_nil)) (nomark _))
      (pss_one (ps_ret pe_int))
      pss_nil)
    (pss_one (ps_ret (pe_op op_mod (pe_callTy call_int1 rfl T.zint boot_int (pa_cons (pe_ix ix_list (pe_dget hu (pv 0) pe_str (fun _ _ => rfl)) (pe_op op_sub (pe_dget hu (pv 0) pe_str (fun _ _ => rfl)) pe_int) (fun _ _ => rfl)) pa_nil)) (pv 1)))))), ?_⟩
  refine ⟨_, rfl, p, _, rfl, (dk_at r i ▸ DGet.k (k := Sum.inr "at") hp), ?_⟩
  refine ⟨_, _, rfl, rfl, _, DPut.k (k := Sum.inr "at") hp (by show 2 < sizeLine; decide), ?_⟩
  rw [dk_put]
  have hp2 : upd H p (.dK (dk2 r ((i : Int) + 1))) p = some (.dK (dk2 r ((i : Int) + 1))) := upd_same
  have hr2 : upd H p (.dK (dk2 r ((i : Int) + 1))) r = some (.lst (row.map V.int)) := by rw [upd_ne npr]; exact hrow
  have fin : ∀ n : Int, 0 ≤ n → n < m → Q (.int n) (upd H p (.dK (dk2 r ((i : Int) + 1)))) := fun n h0 h1 =>
    q n _ h0 h1 (fun b o hb e => by rw [upd_ne hb]; exact e) ⟨row, i + 1, by rw [upd_same]; rfl, hr2⟩
  refine ⟨_, rfl, p, _, rfl, (dk_at r _ ▸ DGet.k (k := Sum.inr "at") hp2), _, rfl, p, _, rfl, (dk_draws r _ ▸ DGet.k (k := Sum.inr "draws") hp2), r, _, rfl, .inl (SqL.of hr2), _, _, rfl, rfl, _, rfl, ?_⟩
  refine ite2 (fun c => ?_) (fun c => ?_)
  · exact fin 0 (by omega) hm0
  · have c' : ¬ (i : Int) + 1 > (((row.map V.int).length : Nat) : Int) := fun z => c (decide_eq_true z)
    rw [List.length_map] at c'
    obtain ⟨v, hv⟩ := at_int (ns := row) (i := (i : Int) + 1 - 1) (by omega) (by omega)
    refine ⟨_, rfl, p, _, rfl, (dk_draws r _ ▸ DGet.k (k := Sum.inr "draws") hp2), _, rfl, p, _, rfl, (dk_at r _ ▸ DGet.k (k := Sum.inr "at") hp2), _, _, rfl, rfl, r, _, _, _, rfl, rfl, SqL.of hr2, hv, .inl ⟨_, rfl, ?_⟩⟩
    refine ⟨_, rfl, _, _, rfl, rfl, hm0, ?_⟩
    exact fin _ (Int.emod_nonneg _ (by omega)) (Int.emod_lt_of_pos _ hm0)
abbrev sDraws : Stmt := topS 5
theorem scDraws : FnScope ["script", "many", "draws", "mixed", "k", "cell", "rest", "turn"] ["script", "many"] (defScope sDraws) := ⟨rfl, rfl, rfl, by decide +kernel, rfl, by decide +kernel, by decide +kernel⟩
/-- some row of whole numbers -/
def spDraws (K : PySem.W.Frag) : Sp := fun vs H Q _ => ∃ (a : Addr) (ns : List Int) (m : Nat), vs = [.ref a, .int (m : Int)] ∧ SqL K H a (ns.map V.int) ∧ ns.length ≤ 63 ∧ m ≤ 1000 ∧ ∀ (r : Addr) (row : List Int) (H' : Hp), H r = none → Same H H' → H' r = some (.lst (row.map V.int)) → Q (.ref r) H'
theorem cut_ints (row : List Int) (lo hi : Option Int) : ∃ row' : List Int, cutV (row.map V.int) lo hi = row'.map V.int := by
  unfold cutV
  simp only [← List.map_drop, ← List.map_take]
  exact ⟨_, rfl⟩
theorem c_draws {f : Addr} {fd : FuncData} (T : TxtD mg) (F : Fun K "_law_draws" "_law_draws" sDraws f fd) (b : Binds K fd ["script", "many"] []) (hm : mg "_law_draws" = some (.ref f)) : C8.Cal P w K mg base 1 "_law_draws" (spDraws K) [] := by
  refine cal_of F hm b scDraws (fun vs H Q E h => ?_) (fun cdv A outer s H vs Q E hr h => ?_)
  · obtain ⟨a, ns, m, rfl, _⟩ := h
    rfl
  obtain ⟨a, ns, m, rfl, hS, h63, hm1, q⟩ := h
  refine ⟨_, (pss_cons (ps_set (i := 2) scDraws.nd rfl (Or.inl rfl) (pe_lst pa_nil))
    (pss_cons (ps_set (i := 3) scDraws.nd rfl (Or.inl rfl) pe_int)
    (pss_cons (ps_for PassesOwn.never rfl (pi_range1 rfl T.zrange (pa_cons (pe_callB call_len_seq rfl T.zlen PySem.boot_len (pa_cons (pv 0) pa_nil)) pa_nil)) (pg_name (i := 4) scDraws.nd rfl (Or.inl rfl))
      (pss_cons (ps_set (i := 5) scDraws.nd rfl (Or.inl rfl) (pe_callB call_abs rfl T.zabs boot_abs (pa_cons (pe_callTy call_int1 rfl T.zint boot_int (pa_cons (pe_ix ix_list (pv 0) (pv 4) (fun _ _ => rfl)) pa_nil)) pa_nil)))
    (pss_cons (ps_set (i := 3) scDraws.nd rfl (Or.inl rfl) (pe_op op_mod (pe_callTy call_int1 rfl T.zint boot_int (pa_cons (pe_op op_add (pe_op op_add (pe_op op_mul (pv 3) pe_int) (pe_op op_mod (pv 5) pe_int)) (pv 4)) pa_nil)) pe_int))
    (pss_cons (ps_set (i := 6) scDraws.nd rfl (Or.inl rfl) pe_int)
    (C8.pss_cut (ps_if (pt_cmpR op_ge (pv 5) (pe_op op_pow pe_int pe_int) (nomark _))
      (pss_one (ps_set (i := 6) scDraws.nd rfl (Or.inl rfl) (pv 5)))
      (pss_cons (ps_expr (pe_bm PySem.F.plainAttrs_list PySem.F.slot_list_append PySem.F.type_list_append mt_append (pv 2) (pa_cons (pe_op op_mod (pe_callTy call_int1 rfl T.zint boot_int (pa_cons (pv 5) pa_nil)) pe_int) pa_nil)))
    (pss_one (ps_expr (pe_bm PySem.F.plainAttrs_list PySem.F.slot_list_append PySem.F.type_list_append mt_append (pv 2) (pa_cons (pe_op op_mod (pe_op op_mod (pe_callTy call_int1 rfl T.zint boot_int (pa_cons (pe_op op_add (pe_op op_mul (pv 3) pe_int) pe_int) pa_nil)) pe_int) pe_int) pa_nil))))))
    (pss_one (ps_for PassesOwn.never rfl (pi_range1 rfl T.zrange (pa_cons pe_int pa_nil)) (pg_name (i := 7) scDraws.nd rfl (Or.inl rfl))
      (pss_one (ps_if (pt_cmpR op_gt (pv 6) pe_int (nomark _))
      (pss_cons (ps_expr (pe_bm PySem.F.plainAttrs_list PySem.F.slot_list_append PySem.F.type_list_append mt_append (pv 2) (pa_cons (pe_op op_mod (pe_callTy call_int1 rfl T.zint boot_int (pa_cons (pv 6) pa_nil)) pe_int) pa_nil)))
    (pss_one (ps_set (i := 6) scDraws.nd rfl (Or.inl rfl) (pe_op op_fdiv (pv 6) pe_int))))
      pss_nil)))))))))
    (pss_cons (ps_for PassesOwn.never rfl (pi_range1 rfl T.zrange (pa_cons (pv 1) pa_nil)) (pg_name (i := 4) scDraws.nd rfl (Or.inl rfl))
      (pss_cons (ps_set (i := 3) scDraws.nd rfl (Or.inl rfl) (pe_op op_mod (pe_callTy call_int1 rfl T.zint boot_int (pa_cons (pe_op op_add (pe_op op_add (pe_op op_mul (pv 3) pe_int) (pv 4)) pe_int) pa_nil)) pe_int))
    (pss_one (ps_expr (pe_bm PySem.F.plainAttrs_list PySem.F.slot_list_append PySem.F.type_list_append mt_append (pv 2) (pa_cons (pe_op op_mod (pe_callTy call_int1 rfl T.zint boot_int (pa_cons (pv 3) pa_nil)) pe_int) pa_nil))))))
    (pss_one (ps_ret (pe_slice sl_list (pv 2) po_none (po_some (pv 1))))))))), ?_⟩
  refine ⟨(by show 0 ≤ sizeLine; decide), fun r hr0 => ?_⟩
  refine ⟨_, rfl, a, _, rfl, .inl ((same_new hr0 _).seq hS), _, rfl, ?_, ?_, for_range
    (fun (k : Nat) σ H2 => ∃ (kk c t x : Option V) (mx : Int) (row : List Int), σ = [some (.ref a), some (.int (m : Int)), some (.ref r), some (.int mx), kk, c, t, x] ∧ Same H H2 ∧ H2 r = some (.lst (row.map V.int)) ∧ row.length ≤ 62 * k)
    ⟨none, none, none, none, 7, [], rfl, same_new hr0 _, upd_same, by simp⟩ ?_ ?_⟩
  · omega
  · rw [List.length_map]
    omega
  · rintro k σ H2 hk ⟨kk, c, t, x, mx, row, rfl, s2, hrow, hl⟩
    have hk' : (k : Int) < (ns.length : Int) := by
      rw [List.length_map] at hk
      omega
    obtain ⟨v, hv⟩ := at_int (ns := ns) (i := 0 + (k : Int)) (by omega) (by omega)
    refine ⟨_, rfl, _, rfl, a, _, _, _, rfl, rfl, s2.seq hS, hv, .inl ⟨_, rfl, _, rfl, ?_⟩⟩
    refine ⟨_, rfl, _, _, rfl, rfl, .inr (by decide), _, rfl, _, _, rfl, rfl, (show (0 : Int) < 1000003 by decide), _, _, rfl, rfl, _, rfl, _, _, rfl, rfl, .inl ⟨_, rfl, _, _, rfl, rfl, (show (0 : Int) < 65537 by decide), ?_⟩⟩
    refine ⟨fun σ H3 => ∃ (c : Option V) (mx x : Int) (t : Option V) (row : List Int), σ = [some (.ref a), some (.int (m : Int)), some (.ref r), some (.int mx), some (.int (0 + (k : Int))), c, some (.int x), t] ∧ Same H H3 ∧ H3 r = some (.lst (row.map V.int)) ∧ row.length ≤ 62 * k + 2, ?_, ?_⟩
    · refine ⟨_, rfl, _, _, rfl, rfl, ⟨by decide, by decide, by decide⟩, _, _, rfl, rfl, _, rfl, ?_⟩
      refine ite2 (fun _ => ?_) (fun _ => ?_)
      · exact ⟨_, rfl, _, _, _, _, row, rfl, s2, hrow, by omega⟩
      · refine ⟨_, rfl, .inl ⟨rfl, _, SqL.of hrow⟩, _, rfl, .inl ⟨_, rfl, _, _, rfl, rfl, (show (0 : Int) < 997 by decide), r, _, _, rfl, rfl, hrow, szl (by rw [List.length_map]; omega), ?_⟩⟩
        have e3 : ∀ z : Int, upd H2 r (.lst (row.map V.int ++ [.int z])) r = some (.lst ((row ++ [z]).map V.int)) := fun z => by rw [upd_same, List.map_append]; rfl
        have s3 : ∀ z : Int, Same H (upd H2 r (.lst (row.map V.int ++ [.int z]))) := fun z => same_upd hr0 s2 _
        refine ⟨_, rfl, .inl ⟨rfl, _, SqL.of (e3 _)⟩, _, rfl, _, _, rfl, rfl, .inr (by decide), _, _, rfl, rfl, .inl ⟨_, rfl, _, _, rfl, rfl, (show (0 : Int) < 65521 by decide), _, _, rfl, rfl, (show (0 : Int) < 997 by decide), r, _, _, rfl, rfl, e3 _, szl (by rw [List.length_map, List.length_append]; show _ + 1 ≤ _; omega), ?_⟩⟩
        refine ⟨_, _, _, _, row ++ [_] ++ [_], rfl, same_upd hr0 (s3 _) _, by rw [upd_same]; simp only [List.map_append]; rfl, ?_⟩
        rw [List.length_append, List.length_append]
        show row.length + 1 + 1 ≤ _
        omega
    rintro σ H3 ⟨c, mx, x, t, row, rfl, s3, hrow, hl⟩
    refine ⟨60, rfl, by decide, by decide, for_range (fun (j : Nat) σ H3 => ∃ (c : Option V) (mx x : Int) (t : Option V) (row : List Int), σ = [some (.ref a), some (.int (m : Int)), some (.ref r), some (.int mx), some (.int (0 + (k : Int))), c, some (.int x), t] ∧ Same H H3 ∧ H3 r = some (.lst (row.map V.int)) ∧ row.length ≤ 62 * k + 2 + j)
      ⟨_, _, _, _, row, rfl, s3, hrow, by omega⟩ ?_ ?_⟩
    · rintro j σ H3 hj ⟨c, mx, x, t, row, rfl, s3, hrow, hl⟩
      refine ⟨_, rfl, _, _, rfl, rfl, _, rfl, ?_⟩
      refine ite2 (fun _ => ?_) (fun _ => ?_)
      · refine ⟨_, rfl, .inl ⟨rfl, _, SqL.of hrow⟩, _, rfl, .inl ⟨_, rfl, _, _, rfl, rfl, (show (0 : Int) < 997 by decide), r, _, _, rfl, rfl, hrow, szl (by rw [List.length_map]; omega), ?_⟩⟩
        refine ⟨_, rfl, _, _, rfl, rfl, ⟨by decide, by decide⟩, ?_⟩
        refine ⟨_, _, _, _, row ++ [_], rfl, same_upd hr0 s3 _, by rw [upd_same, List.map_append]; rfl, ?_⟩
        rw [List.length_append]
        show row.length + 1 ≤ _
        omega
      · exact ⟨_, _, _, _, row, rfl, s3, hrow, by omega⟩
    · rintro σ H3 ⟨c, mx, x, t, row, rfl, s3, hrow, hl⟩
      exact ⟨_, _, _, _, _, row, rfl, s3, hrow, by omega⟩
  · rintro σ H2 ⟨kk, c, t, x, mx, row, rfl, s2, hrow, hl⟩
    rw [List.length_map] at hl
    refine ⟨_, rfl, ?_⟩
    refine ⟨_, rfl, by omega, by omega, for_range (fun (j : Nat) σ H3 => ∃ (kk c t x : Option V) (mx : Int) (row : List Int), σ = [some (.ref a), some (.int (m : Int)), some (.ref r), some (.int mx), kk, c, t, x] ∧ Same H H3 ∧ H3 r = some (.lst (row.map V.int)) ∧ row.length ≤ 4000 + j)
      ⟨_, _, _, _, _, row, rfl, s2, hrow, by omega⟩ ?_ ?_⟩
    · rintro j σ H3 hj ⟨kk, c, t, x, mx, row, rfl, s3, hrow, hl⟩
      have hj : j < ((m : Int)).toNat := hj
      refine ⟨_, rfl, _, _, rfl, rfl, .inr (by decide), _, rfl, _, _, rfl, rfl, _, _, rfl, rfl, .inl ⟨_, rfl, _, _, rfl, rfl, (show (0 : Int) < 65537 by decide), ?_⟩⟩
      refine ⟨_, rfl, .inl ⟨rfl, _, SqL.of hrow⟩, _, rfl, .inl ⟨_, rfl, _, _, rfl, rfl, (show (0 : Int) < 997 by decide), r, _, _, rfl, rfl, hrow, szl (by rw [List.length_map]; omega), ?_⟩⟩
      refine ⟨_, _, _, _, _, row ++ [_], rfl, same_upd hr0 s3 _, by rw [upd_same, List.map_append]; rfl, ?_⟩
      rw [List.length_append]
      show row.length + 1 ≤ _
      omega
    · rintro σ H3 ⟨kk, c, t, x, mx, row, rfl, s3, hrow, hl⟩
      obtain ⟨row', hc⟩ := cut_ints row none (some (m : Int))
      refine ⟨_, rfl, _, rfl, _, rfl, r, _, rfl, SqL.of hrow, fun p hp => ?_⟩
      rw [hc]
      exact q p row' _ (s3.free hp) (same_upd (s3.free hp) s3 _) upd_same
end
end Toy

set_option Elab.async false
set_option linter.all false
set_option maxRecDepth 100000
set_option maxHeartbeats 4000000
/-! Part B: data of tuples, whole numbers, texts and None, in plain Lean, and how it stands in the heap. -/
namespace Toy
open PySem L2
inductive Td
  | non
  | int (i : Int)
  | str (s : Str)
  | tup (l : List Td)
mutual
def Td.D : Td → PyData
  | .non => .none
  | .int i => .int i
  | .str s => .str s
  | .tup l => .tuple (Td.Ds l)
def Td.Ds : List Td → List PyData
  | [] => []
  | k :: l => k.D :: Td.Ds l
end
mutual
/-- such data stands in the heap as v, in tuples that are tracked -/
def Td.At (H : Hp) : Td → V → Prop
  | .non, v => v = .non
  | .int i, v => v = .int i
  | .str s, v => v = .str s
  | .tup l, v => ∃ a xs, v = .ref a ∧ H a = some (.tup xs) ∧ Td.Ats H l xs
def Td.Ats (H : Hp) : List Td → List V → Prop
  | [], xs => xs = []
  | k :: l, xs => ∃ x ys, xs = x :: ys ∧ k.At H x ∧ Td.Ats H l ys
end
/-- a heap in which the tuples stand -/
def TK (H H' : Hp) : Prop := ∀ a xs, H a = some (.tup xs) → H' a = some (.tup xs)
theorem TK.refl (H : Hp) : TK H H := fun _ _ h => h
theorem TK.trans {H1 H2 H3 : Hp} (h : TK H1 H2) (k : TK H2 H3) : TK H1 H3 := fun a xs e => k a xs (h a xs e)
theorem tk_same {H H' : Hp} (s : Same H H') : TK H H' := fun _ _ e => s _ _ e
theorem tk_upd {H : Hp} {p : Addr} {o : HO} (n : ∀ xs, H p ≠ some (.tup xs)) : TK H (upd H p o) := fun a xs e => by
  rw [upd_ne (fun z => n xs (by rw [← z]; exact e))]
  exact e
theorem tk_list {H : Hp} {p : Addr} {ys : List V} {o : HO} (h : H p = some (.lst ys)) : TK H (upd H p o) := tk_upd fun xs e => by rw [h] at e; cases e
theorem tk_dict {H : Hp} {p : Addr} {kvs : List (Key × V)} {o : HO} (h : H p = some (.dK kvs)) : TK H (upd H p o) := tk_upd fun xs e => by rw [h] at e; cases e
theorem tk_new {H : Hp} {p : Addr} {o : HO} (h : H p = none) : TK H (upd H p o) := tk_same (same_new h o)
theorem tk_keep {p : Addr} {H H' : Hp} (k : Keep p H H') (n : ∀ xs, H p ≠ some (.tup xs)) : TK H H' := fun a xs e => k a _ (fun z => n xs (z ▸ e)) e
theorem DrawsAt.notup {H : Hp} {p r : Addr} (d : DrawsAt H p r) : ∀ xs, H p ≠ some (.tup xs) := fun xs e => by
  obtain ⟨_, _, h, _⟩ := d
  rw [h] at e
  cases e
theorem sameT {H1 H2 H3 : Hp} (h : Same H1 H2) (k : Same H2 H3) : Same H1 H3 := fun a u e => k a u (h a u e)
mutual
theorem Td.At.keep {H H' : Hp} : ∀ {k : Td} {v : V}, TK H H' → k.At H v → k.At H' v
  | .non, _, _, h => h
  | .int _, _, _, h => h
  | .str _, _, _, h => h
  | .tup l, _, t, ⟨a, xs, e, h, hs⟩ => ⟨a, xs, e, t _ _ h, Td.Ats.keep t hs⟩
theorem Td.Ats.keep {H H' : Hp} : ∀ {l : List Td} {xs : List V}, TK H H' → Td.Ats H l xs → Td.Ats H' l xs
  | [], _, _, h => h
  | k :: l, _, t, ⟨x, ys, e, h, hs⟩ => ⟨x, ys, e, Td.At.keep t h, Td.Ats.keep t hs⟩
end
mutual
theorem Td.At.dp {K : PySem.W.Frag} {H : Hp} : ∀ {k : Td} {v : V}, k.At H v → Dp K H v k.D
  | .non, _, h => by cases h; exact .non
  | .int i, _, h => by cases h; exact .int i
  | .str s, _, h => by cases h; exact .str s
  | .tup l, _, ⟨a, xs, e, h, hs⟩ => by cases e; exact .tup (SqT.of h) (Td.Ats.dp hs)
theorem Td.Ats.dp {K : PySem.W.Frag} {H : Hp} : ∀ {l : List Td} {xs : List V}, Td.Ats H l xs → DpAll K H xs (Td.Ds l)
  | [], _, h => by cases h; exact .nil
  | k :: l, _, ⟨x, ys, e, h, hs⟩ => by cases e; exact .cons (Td.At.dp h) (Td.Ats.dp hs)
end
mutual
/-- its texts can be laid -/
def Td.lay : Td → Bool
  | .non => true
  | .int _ => true
  | .str s => PyData.strOk s
  | .tup l => Td.lays l
def Td.lays : List Td → Bool
  | [] => true
  | k :: l => k.lay && Td.lays l
end
mutual
def Td.dep : Td → Nat
  | .non => 0
  | .int _ => 0
  | .str _ => 0
  | .tup l => 1 + Td.deps l
def Td.deps : List Td → Nat
  | [] => 0
  | k :: l => max k.dep (Td.deps l)
end
mutual
theorem Td.canLay : ∀ k : Td, k.lay = true → k.D.canLay0 = true
  | .non, _ => by simp [Td.D, PyData.canLay0]
  | .int i, _ => by simp [Td.D, PyData.canLay0]
  | .str s, h => by
    have h : PyData.strOk s = true := h
    simp [Td.D, PyData.canLay0, h]
  | .tup l, h => by
    have h : Td.lays l = true := h
    simp [Td.D, PyData.canLay0, Td.canLays l h]
theorem Td.canLays : ∀ l : List Td, Td.lays l = true → PyData.canLayAll0 (Td.Ds l) = true
  | [], _ => by simp [Td.Ds, PyData.canLayAll0]
  | k :: l, h => by
    have h : (k.lay && Td.lays l) = true := h
    rw [Bool.and_eq_true] at h
    simp [Td.Ds, PyData.canLayAll0, Td.canLay k h.1, Td.canLays l h.2]
end
mutual
theorem Td.depth_le : ∀ k : Td, k.D.depth ≤ k.dep
  | .non => by simp [Td.D, PyData.depth, Td.dep]
  | .int i => by simp [Td.D, PyData.depth, Td.dep]
  | .str s => by simp [Td.D, PyData.depth, Td.dep]
  | .tup l => by
    have h := Td.depths_le l
    simp [Td.D, PyData.depth, Td.dep]
    omega
theorem Td.depths_le : ∀ l : List Td, PyData.depthAll (Td.Ds l) ≤ Td.deps l
  | [] => by simp [Td.Ds, PyData.depthAll, Td.deps]
  | k :: l => by
    have h1 := Td.depth_le k
    have h2 := Td.depths_le l
    simp [Td.Ds, PyData.depthAll, Td.deps]
    omega
end
/-- a list or a tuple of such data can be compared -/
theorem Td.shapedT {l : List Td} (h : Td.lays l = true) (d : Td.deps l ≤ 60) : SeqAt.shaped (.tuple (Td.Ds l)) = true := by
  have h1 := Td.depths_le l
  have h2 : PyData.depth (.tuple (Td.Ds l)) ≤ 64 := by
    simp only [PyData.depth]
    omega
  show (PyData.canLay0 (.tuple (Td.Ds l)) && decide (PyData.depth (.tuple (Td.Ds l)) ≤ 64)) = true
  rw [Bool.and_eq_true]
  exact ⟨by simp only [PyData.canLay0]; exact Td.canLays l h, decide_eq_true h2⟩
theorem Td.shapedL {l : List Td} (h : Td.lays l = true) (d : Td.deps l ≤ 60) : SeqAt.shaped (.list (Td.Ds l)) = true := by
  have h1 := Td.depths_le l
  have h2 : PyData.depth (.list (Td.Ds l)) ≤ 64 := by
    simp only [PyData.depth]
    omega
  show (PyData.canLay0 (.list (Td.Ds l)) && decide (PyData.depth (.list (Td.Ds l)) ≤ 64)) = true
  rw [Bool.and_eq_true]
  exact ⟨by simp only [PyData.canLay0]; exact Td.canLays l h, decide_eq_true h2⟩
theorem Td.shaped {k : Td} (h : k.lay = true) (d : k.dep ≤ 60) : SeqAt.shaped k.D = true := by
  have h1 := Td.depth_le k
  show (PyData.canLay0 k.D && decide (PyData.depth k.D ≤ 64)) = true
  rw [Bool.and_eq_true]
  exact ⟨Td.canLay k h, decide_eq_true (by omega)⟩
theorem eqv_self {d : PyData} (h : SeqAt.shaped d = true) : PyData.eqv d d = true := SeqAt.eqv_refl d (SeqAt.canLay_of_shaped h)
theorem lays_app : ∀ l m : List Td, Td.lays (l ++ m) = (Td.lays l && Td.lays m)
  | [], m => by simp [Td.lays]
  | k :: l, m => by
    show (k.lay && Td.lays (l ++ m)) = ((k.lay && Td.lays l) && Td.lays m)
    rw [lays_app l m, Bool.and_assoc]
theorem deps_app : ∀ l m : List Td, Td.deps (l ++ m) = max (Td.deps l) (Td.deps m)
  | [], m => by simp [Td.deps]
  | k :: l, m => by
    show max k.dep (Td.deps (l ++ m)) = max (max k.dep (Td.deps l)) (Td.deps m)
    rw [deps_app l m]
    omega
theorem ats_app {H : Hp} : ∀ {l m : List Td} {xs ys : List V}, Td.Ats H l xs → Td.Ats H m ys → Td.Ats H (l ++ m) (xs ++ ys)
  | [], m, xs, ys, h, k => by
    cases h
    exact k
  | t :: l, m, _, ys, ⟨x, zs, e, h, hs⟩, k => by
    cases e
    exact ⟨x, zs ++ ys, rfl, h, ats_app hs k⟩
theorem ats_one {H : Hp} {k : Td} {v : V} (h : k.At H v) : Td.Ats H [k] [v] := ⟨v, [], rfl, h, rfl⟩
theorem ats_len {H : Hp} : ∀ {l : List Td} {xs : List V}, Td.Ats H l xs → xs.length = l.length
  | [], _, h => by cases h; rfl
  | k :: l, _, ⟨x, ys, e, h, hs⟩ => by
    cases e
    show ys.length + 1 = l.length + 1
    rw [ats_len hs]
theorem ats_ints {H : Hp} : ∀ ns : List Int, Td.Ats H (ns.map Td.int) (ns.map V.int)
  | [] => rfl
  | n :: ns => ⟨_, _, rfl, rfl, ats_ints ns⟩
theorem lays_ints : ∀ ns : List Int, Td.lays (ns.map Td.int) = true
  | [] => rfl
  | n :: ns => by
    show (true && Td.lays (ns.map Td.int)) = true
    rw [lays_ints ns]
    rfl
theorem deps_ints : ∀ ns : List Int, Td.deps (ns.map Td.int) = 0
  | [] => rfl
  | n :: ns => by
    show max 0 (Td.deps (ns.map Td.int)) = 0
    rw [deps_ints ns]
    rfl
theorem ats_get {H : Hp} : ∀ {l : List Td} {xs : List V} {i : Nat} {x : V}, Td.Ats H l xs → xs[i]? = some x → ∃ k, l[i]? = some k ∧ k.At H x
  | [], _, i, x, h, e => by cases h; simp at e
  | k :: l, _, 0, x, ⟨y, ys, e, h, hs⟩, ex => by
    cases e
    cases ex
    exact ⟨k, rfl, h⟩
  | k :: l, _, i + 1, x, ⟨y, ys, e, h, hs⟩, ex => by
    cases e
    exact ats_get (l := l) (i := i) hs ex
theorem tYes_if {σ : L2.St} {H : Hp} {A B : Hp → Prop} (h : A H) : tYes σ H (fun b H3 => if b = true then A H3 else B H3) := by
  show if true = true then A H else B H
  rw [if_pos rfl]
  exact h
end Toy

set_option Elab.async false
set_option linter.all false
set_option maxRecDepth 100000
set_option maxHeartbeats 4000000
/-! Part X: own rule: the list of a dict's values. -/
namespace L2
open PySem PySem.Spec PyProof.Rows
section
variable {X : Cx} {o : Expr} {p pos apos mpos : Pos} {td : TE}
/-- list(o.values()), a dict with number or text keys -/
def tListVals (td : TE) : TE := fun σ H Q => td σ H fun x H1 => ∃ a kvs, x = V.ref a ∧ H1 a = some (.dK kvs) ∧ ∀ q, H1 q = none → Q (.ref q) (upd H1 q (.lst (kvs.map (·.2))))
theorem pe_listVals (hc : X.calm = true) (hg : Gl X "list") (hm : X.mg "list" = none) (hd : PE X o td) (hbase : attributeBase o "values" X.env (eval o X.env) = eval o X.env := by rfl) (hline : (apos.endLine == mpos.line) = true := by rfl)
    (hse : backTo pos (starEach [Expr.Call (.Attribute o "values" apos) [] [] mpos] X.env) = [(false, eval (Expr.Call (.Attribute o "values" apos) [] [] mpos) X.env)] := by rfl) :
    PE X (.Call (.Name "list" p) [.Call (.Attribute o "values" apos) [] [] mpos] [] pos) (tListVals td) := by
  refine ⟨fun pins s σ H Q I h => ?_⟩
  refine wpAny_Call_Name_kw (ld_blt I hg hm (u := .type "list") Toy.boot_list ?_ (by first | decide +kernel | decide) (by first | decide +kernel | decide))
  rw [hse]
  refine PySem.callWith_type1 (wpAny_Call_method0_late hbase hline (thn (hd.run pins _ σ H _ (I.tok _) h) fun v s1 ⟨x, H1, I1, r1, a, kvs, ex, ha, q⟩ => ?_))
  subst ex
  obtain rfl : v = Value.ref a := r1
  obtain ⟨z, hsys, vs, rel, dof⟩ := (show ObjOk X.prog X.w H1 s1.heap a (.dK kvs) from I1.hok a _ ha)
  obtain ⟨ep, dat⟩ := dof.dictAt
  have dat' := dat
  obtain ⟨ob, es, ho, ex, hdat, hko, hpr, hnd⟩ := dat'
  refine ⟨"dict", "dict.values", F.plainAttrs_dict, F.slot_dict_values, F.type_dict_values, ⟨ob, ho, ex.1⟩, fun b e => ?_, Calls.callWith_builtin rfl (PySem.evalArgs_none ?_)⟩
  · cases e
    exact ⟨ob, ho, ex.2.1⟩
  refine call_meetsIn F.slot_dict_values ⟨ob, ho, ex.1⟩ F.entry_dict_values (F.args_dict_values_1 _) (meets_dict_values (mixKind X.prog X.w) a hsys) ⟨⟨vs, dof⟩, ?_⟩
  have k1 : ∀ b u, s1.heap.get? b = some u → (s1.heap.push { cls := .type "dict_values", data := .fields #[.ref a] }).get? b = some u := fun b u e => Heap.get?_push_of_some _ e
  have dat1 : (s1.heap.push { cls := .type "dict_values", data := .fields #[.ref a] }).DictAt (mixKind X.prog X.w) a vs ep := dat.keep k1
  have hl : kvs.length = vs.length := Paired.length rel
  have I2 : Inv X pins σ H1 { s1 with heap := s1.heap.push { cls := .type "dict_values", data := .fields #[.ref a] } } := I1.kept (t' := s1.toks) k1
  refine PySem.W.kdl_call (PySem.W.kdl_values (knd := mixKind X.prog X.w) (kvs := vs) (ep := ep)) (I.ok.hd hc) ⟨⟨_, Heap.get?_push_size _ rfl, rfl, rfl⟩, dat1⟩ (by rw [← hl]; exact z) fun h' tk acc' c' hkeep hS hacc => ?_
  refine ⟨.ref _, upd H1 _ (.lst (kvs.map (·.2))), I2.laid hkeep (Nat.le_refl _) (show ObjOk X.prog X.w _ _ _ (.lst (kvs.map (·.2))) from ⟨?_, acc'.toList, c', ?_, ?_⟩), rfl, q _ (I2.hok.fresh (Nat.le_refl _))⟩
  · rw [List.length_map]; exact z
  · have el : acc'.toList.length = acc'.size := by simp
    refine vals_of_at (by rw [List.length_map, el, hacc.1, hl]) fun j x w h1 h2 => ?_
    obtain ⟨k, hky⟩ := hacc.2 j w (by rw [← Array.getElem?_toList]; exact h2)
    obtain ⟨y, g1, g2⟩ := KV.at' rel hky
    rw [List.getElem?_map, g1] at h1
    cases h1
    exact g2
  · rw [Array.toArray_toList]; exact hS
end
end L2

set_option Elab.async false
set_option linter.all false
set_option maxRecDepth 100000
set_option maxHeartbeats 4000000
/-! Part C: cells, their size; the class Heap. -/
namespace Toy
open PySem L2
open PyProof.Rows (envOfC)
theorem boot_tuple : bootBuiltins "tuple" = some (.type "tuple") := by decide +kernel
theorem boot_max : bootBuiltins "max" = some (.builtin "max") := by decide +kernel
theorem boot_sum : bootBuiltins "sum" = some (.builtin "sum") := by decide +kernel
theorem boot_dict : bootBuiltins "dict" = some (.type "dict") := by decide +kernel
theorem at0 (x : V) (l : List V) : atI (x :: l) 0 = some x := atI_nat (j := 0) rfl
theorem at1 (x y : V) (l : List V) : atI (x :: y :: l) 1 = some y := atI_nat (j := 1) rfl
theorem at2 (x y z : V) (l : List V) : atI (x :: y :: z :: l) 2 = some z := atI_nat (j := 2) rfl
inductive Cel
  | hole
  | on (i : Int)
  | lat (k : Int) (ws : List Int) (s : Int)
  | cp (c : Bool) (t : Int) (ws : List Int)
def cpW (c : Bool) : Str := if c = true then "con" else "part"
def Cel.T : Cel → Td
  | .hole => .tup [.str "hole"]
  | .on i => .tup [.str "on", .int i]
  | .lat k ws s => .tup [.str "later", .tup [.str "give", .tup [.str "number", .int k]], .tup (ws.map Td.int), .int s]
  | .cp c t ws => .tup [.str (cpW c), .int t, .tup (ws.map Td.int)]
def Cel.size : Cel → Nat
  | .hole => 2
  | .on _ => 2
  | .lat _ ws _ => max 2 (1 + ws.length)
  | .cp _ _ ws => 1 + ws.length
def Cel.word : Cel → Str
  | .hole => "hole"
  | .on _ => "on"
  | .lat _ _ _ => "later"
  | .cp c _ _ => cpW c
def Cel.wlen : Cel → Nat
  | .hole => 0
  | .on _ => 0
  | .lat _ ws _ => ws.length
  | .cp _ _ ws => ws.length
theorem Cel.lay : ∀ c : Cel, c.T.lay = true := by
  have h1 : (PyData.strOk "hole" && true) = true := by decide +kernel
  have h2 : (PyData.strOk "on" && true) = true := by decide +kernel
  have h3 : PyData.strOk "later" = true := by decide +kernel
  have h4 : PyData.strOk "give" = true := by decide +kernel
  have h5 : PyData.strOk "number" = true := by decide +kernel
  have h6 : PyData.strOk "con" = true := by decide +kernel
  have h7 : PyData.strOk "part" = true := by decide +kernel
  intro c
  cases c with
  | hole => exact h1
  | on i => exact h2
  | lat k ws s =>
    show (PyData.strOk "later" && ((PyData.strOk "give" && ((PyData.strOk "number" && (true && true)) && true)) && (Td.lays (ws.map Td.int) && (true && true)))) = true
    rw [h3, h4, h5, lays_ints]
    rfl
  | cp c t ws =>
    show (PyData.strOk (cpW c) && (true && (Td.lays (ws.map Td.int) && true))) = true
    rw [lays_ints]
    cases c
    · show (PyData.strOk "part" && _) = true
      rw [h7]; rfl
    · show (PyData.strOk "con" && _) = true
      rw [h6]; rfl
theorem Cel.dep : ∀ c : Cel, c.T.dep ≤ 3
  | .hole => by show 1 + max 0 0 ≤ 3; omega
  | .on i => by show 1 + max 0 (max 0 0) ≤ 3; omega
  | .lat k ws s => by
    show 1 + max 0 (max (1 + max 0 (max (1 + max 0 (max 0 0)) 0)) (max (1 + Td.deps (ws.map Td.int)) (max 0 0))) ≤ 3
    rw [deps_ints]
    omega
  | .cp c t ws => by
    show 1 + max 0 (max 0 (max (1 + Td.deps (ws.map Td.int)) 0)) ≤ 3
    rw [deps_ints]
    omega
theorem Cel.shaped (c : Cel) : SeqAt.shaped c.T.D = true := Td.shaped c.lay (Nat.le_trans c.dep (by decide))
/-- what a cell's value is: its word at 0; its words at 2 where it has them -/
theorem cel_row {H : Hp} {c : Cel} {v : V} (h : c.T.At H v) : ∃ t row, v = .ref t ∧ H t = some (.tup row) ∧ atI row 0 = some (.str c.word) ∧
    (c.word = "later" ∨ c.word = "con" ∨ c.word = "part" → ∃ u xs, atI row 2 = some (.ref u) ∧ H u = some (.tup xs) ∧ xs.length = c.wlen) := by
  have n1 : ¬ (("hole" : Str) = "later" ∨ ("hole" : Str) = "con" ∨ ("hole" : Str) = "part") := by decide +kernel
  have n2 : ¬ (("on" : Str) = "later" ∨ ("on" : Str) = "con" ∨ ("on" : Str) = "part") := by decide +kernel
  cases c with
  | hole =>
    obtain ⟨a, xs, rfl, ha, x, ys, rfl, hx, hy⟩ := h
    cases hx
    exact ⟨a, _, rfl, ha, at0 _ _, fun z => absurd z n1⟩
  | on i =>
    obtain ⟨a, xs, rfl, ha, x, ys, rfl, hx, hy⟩ := h
    cases hx
    exact ⟨a, _, rfl, ha, at0 _ _, fun z => absurd z n2⟩
  | lat k ws s =>
    obtain ⟨a, xs, rfl, ha, x, ys, rfl, hx, y, zs, rfl, hy, z, us, rfl, ⟨u, ts, rfl, hu, hts⟩, hz⟩ := h
    cases hx
    exact ⟨a, _, rfl, ha, at0 _ _, fun _ => ⟨u, ts, at2 _ _ _ _, hu, by rw [ats_len hts, List.length_map]; rfl⟩⟩
  | cp c t ws =>
    obtain ⟨a, xs, rfl, ha, x, ys, rfl, hx, y, zs, rfl, hy, z, us, rfl, ⟨u, ts, rfl, hu, hts⟩, hz⟩ := h
    cases hx
    exact ⟨a, _, rfl, ha, at0 _ _, fun _ => ⟨u, ts, at2 _ _ _ _, hu, by rw [ats_len hts, List.length_map]; rfl⟩⟩
theorem cel_kind (c : Cel) : (c.word = "hole" ∧ c.size = 2) ∨ (c.word = "on" ∧ c.size = 2) ∨ (c.word = "later" ∧ c.size = max 2 (1 + c.wlen)) ∨ (c.word = "con" ∧ c.size = 1 + c.wlen) ∨ (c.word = "part" ∧ c.size = 1 + c.wlen) := by
  cases c with
  | hole => exact .inl ⟨rfl, rfl⟩
  | on i => exact .inr (.inl ⟨rfl, rfl⟩)
  | lat k ws s => exact .inr (.inr (.inl ⟨rfl, rfl⟩))
  | cp c t ws => cases c
                 · exact .inr (.inr (.inr (.inr ⟨rfl, rfl⟩)))
                 · exact .inr (.inr (.inr (.inl ⟨rfl, rfl⟩)))
theorem max_int (n : Nat) : (if (1 : Int) + (n : Int) > 2 then (1 : Int) + (n : Int) else 2) = ((max 2 (1 + n) : Nat) : Int) := by split <;> omega
theorem add_int (n : Nat) : (1 : Int) + (n : Int) = ((1 + n : Nat) : Int) := by omega
structure TxtS (mg : Str → Option Value) : Prop where
  zlen : mg "len" = none
  zmax : mg "max" = none
  gLEAST_SIZE_OF_DELAYED : ∃ u, mg "LEAST_SIZE_OF_DELAYED" = some u ∧ RelV (.int 2) u
section
variable {P : Program} {w : World} {K : PySem.W.Frag} {mg : Str → Option Value} {base : Heap}
abbrev sSize : Stmt := topS 2
theorem scSize : FnScope ["cell", "word"] ["cell"] (defScope sSize) := ⟨rfl, rfl, rfl, by decide +kernel, rfl, by decide +kernel, by decide +kernel⟩
def spSize : Sp := fun vs H Q _ => ∃ (v : V) (c : Cel), vs = [v] ∧ c.T.At H v ∧ c.wlen ≤ 1000 ∧ ∀ H', Same H H' → Q (.int (c.size : Int)) H'
theorem c_size {f : Addr} {fd : FuncData} (T : TxtS mg) (F : Fun K "size_of" "size_of" sSize f fd) (b : Binds K fd ["cell"] []) (hm : mg "size_of" = some (.ref f)) : C8.Cal P w K mg base 1 "size_of" spSize [] := by
  refine cal_of F hm b scSize (fun vs H Q E h => ?_) (fun cdv A outer s H vs Q E hr h => ?_)
  · obtain ⟨v, c, rfl, _⟩ := h
    rfl
  obtain ⟨v, c, rfl, hat, hwl, q⟩ := h
  refine ⟨_, (pss_cons (ps_set (i := 1) scSize.nd rfl (Or.inl rfl) (pe_ix ix_tup (pv 0) pe_int (fun _ _ => rfl)))
    (pss_cons (ps_if (pt_cmpR op_in_seq (pv 1) (pe_tup (pa_cons pe_str (pa_cons pe_str pa_nil))) rfl)
      (pss_one (ps_ret (pe_op op_add pe_int (pe_callB call_len_seq rfl T.zlen PySem.boot_len (pa_cons (pe_ix ix_tup (pv 0) pe_int (fun _ _ => rfl)) pa_nil)))))
      pss_nil)
    (pss_cons (ps_if (pt_cmpR op_eq (pv 1) pe_str (nomark _))
      (pss_one (ps_ret (pe_callB (call_max2 rfl) rfl T.zmax boot_max (pa_cons (C8.pe_gc rfl T.gLEAST_SIZE_OF_DELAYED) (pa_cons (pe_op op_add pe_int (pe_callB call_len_seq rfl T.zlen PySem.boot_len (pa_cons (pe_ix ix_tup (pv 0) pe_int (fun _ _ => rfl)) pa_nil))) pa_nil)))))
      pss_nil)
    (pss_one (ps_ret (C8.pe_gc rfl T.gLEAST_SIZE_OF_DELAYED)))))), ?_⟩
  obtain ⟨t, row, rfl, ht, h0, h2⟩ := cel_row hat
  refine ⟨_, rfl, t, _, 0, _, rfl, rfl, SqT.of ht, h0, ?_⟩
  refine ⟨_, rfl, by show 2 ≤ sizeLine; decide, fun u hu => ?_⟩
  have s1 := same_new hu (.tup [.str "con", .str "part"])
  refine ⟨u, _, rfl, .inr (SqT.of upd_same), rfl, rfl, ?_⟩
  have ht1 := s1 _ _ ht
  generalize upd H u (.tup [.str "con", .str "part"]) = H1 at s1 ht1 ⊢
  have eI : (if false = true then !inV (V.str c.word) [V.str "con", V.str "part"] else inV (V.str c.word) [V.str "con", V.str "part"]) = inV (V.str c.word) [V.str "con", V.str "part"] := rfl
  rw [eI]
  rcases cel_kind c with ⟨e, ez⟩ | ⟨e, ez⟩ | ⟨e, ez⟩ | ⟨e, ez⟩ | ⟨e, ez⟩
  · have := 0
    have hl : c.word ≠ "later" := (by rw [e]; decide +kernel)
    have e1 : inV (V.str c.word) [V.str "con", V.str "part"] = false := (by rw [e]; decide +kernel)
    rw [e1]
    refine ⟨_, rfl, ?_⟩
    refine iteF ?_
    refine ⟨_, rfl, rfl, _, rfl, ?_⟩
    show if decide (V.str c.word = V.str "later") = true then _ else _
    rw [show decide (V.str c.word = V.str "later") = false from decide_eq_false fun z => hl (V.str.inj z)]
    refine iteF ?_
    have q' := q H1 s1
    rw [ez] at q'
    exact q'
  · have := 0
    have hl : c.word ≠ "later" := (by rw [e]; decide +kernel)
    have e1 : inV (V.str c.word) [V.str "con", V.str "part"] = false := (by rw [e]; decide +kernel)
    rw [e1]
    refine ⟨_, rfl, ?_⟩
    refine iteF ?_
    refine ⟨_, rfl, rfl, _, rfl, ?_⟩
    show if decide (V.str c.word = V.str "later") = true then _ else _
    rw [show decide (V.str c.word = V.str "later") = false from decide_eq_false fun z => hl (V.str.inj z)]
    refine iteF ?_
    have q' := q H1 s1
    rw [ez] at q'
    exact q'
  · obtain ⟨u2, xs, g1, g2, g3⟩ := h2 (.inl e)
    rw [show inV (V.str c.word) [V.str "con", V.str "part"] = false by rw [e]; decide +kernel]
    refine ⟨_, rfl, ?_⟩
    refine iteF ?_
    refine ⟨_, rfl, rfl, _, rfl, ?_⟩
    show if decide (V.str c.word = V.str "later") = true then _ else _
    rw [e, show decide (V.str ("later" : Str) = V.str "later") = true by decide +kernel]
    refine iteT ?_
    refine ⟨_, rfl, t, _, 2, _, rfl, rfl, SqT.of ht1, g1, u2, xs, rfl, .inr (SqT.of (s1 _ _ g2)), _, _, rfl, rfl, _, _, rfl, ?_⟩
    have q' := q H1 s1
    rw [ez, ← g3, ← max_int] at q'
    exact q'
  · have := 0
    have e1 : inV (V.str c.word) [V.str "con", V.str "part"] = true := (by rw [e]; decide +kernel)
    have h : c.word = "later" ∨ c.word = "con" ∨ c.word = "part" := (.inr (.inl e))
    obtain ⟨u2, xs, g1, g2, g3⟩ := h2 h
    rw [e1]
    refine ⟨_, rfl, ?_⟩
    refine iteT ?_
    refine ⟨_, rfl, t, _, 2, _, rfl, rfl, SqT.of ht1, g1, u2, xs, rfl, .inr (SqT.of (s1 _ _ g2)), _, _, rfl, rfl, ?_⟩
    have q' := q H1 s1
    rw [ez, ← g3, ← add_int] at q'
    exact q'
  · have := 0
    have e1 : inV (V.str c.word) [V.str "con", V.str "part"] = true := (by rw [e]; decide +kernel)
    have h : c.word = "later" ∨ c.word = "con" ∨ c.word = "part" := (.inr (.inr e))
    obtain ⟨u2, xs, g1, g2, g3⟩ := h2 h
    rw [e1]
    refine ⟨_, rfl, ?_⟩
    refine iteT ?_
    refine ⟨_, rfl, t, _, 2, _, rfl, rfl, SqT.of ht1, g1, u2, xs, rfl, .inr (SqT.of (s1 _ _ g2)), _, _, rfl, rfl, ?_⟩
    have q' := q H1 s1
    rw [ez, ← g3, ← add_int] at q'
    exact q'
abbrev sLSize : Stmt := topS 8
theorem scLSize : FnScope ["cell"] ["cell"] (defScope sLSize) := ⟨rfl, rfl, rfl, by decide +kernel, rfl, by decide +kernel, by decide +kernel⟩
theorem c_lsize {f : Addr} {fd : FuncData} (T : TxtS mg) (F : Fun K "_law_size" "_law_size" sLSize f fd) (b : Binds K fd ["cell"] []) (hm : mg "_law_size" = some (.ref f)) : C8.Cal P w K mg base 1 "_law_size" spSize [] := by
  refine cal_of F hm b scLSize (fun vs H Q E h => ?_) (fun cdv A outer s H vs Q E hr h => ?_)
  · obtain ⟨v, c, rfl, _⟩ := h
    rfl
  obtain ⟨v, c, rfl, hat, hwl, q⟩ := h
  refine ⟨_, (pss_cons (ps_if (pt_cmpR op_in_seq (pe_ix ix_tup (pv 0) pe_int (fun _ _ => rfl)) (pe_lst (pa_cons pe_str (pa_cons pe_str pa_nil))) rfl)
      (pss_one (ps_ret pe_int))
      pss_nil)
    (pss_cons (ps_if (pt_cmpR op_eq (pe_ix ix_tup (pv 0) pe_int (fun _ _ => rfl)) pe_str (nomark _))
      (pss_one (ps_ret (pe_callB (call_max2 rfl) rfl T.zmax boot_max (pa_cons pe_int (pa_cons (pe_op op_add pe_int (pe_callB call_len_seq rfl T.zlen PySem.boot_len (pa_cons (pe_ix ix_tup (pv 0) pe_int (fun _ _ => rfl)) pa_nil))) pa_nil)))))
      pss_nil)
    (pss_one (ps_ret (pe_op op_add pe_int (pe_callB call_len_seq rfl T.zlen PySem.boot_len (pa_cons (pe_ix ix_tup (pv 0) pe_int (fun _ _ => rfl)) pa_nil))))))), ?_⟩
  obtain ⟨t, row, rfl, ht, h0, h2⟩ := cel_row hat
  refine ⟨_, rfl, t, _, 0, _, rfl, rfl, SqT.of ht, h0, by show 2 ≤ sizeLine; decide, fun u hu => ?_⟩
  have s1 := same_new hu (.lst [.str "hole", .str "on"])
  refine ⟨u, _, rfl, .inl (SqL.of upd_same), rfl, rfl, ?_⟩
  have ht1 := s1 _ _ ht
  generalize upd H u (.lst [.str "hole", .str "on"]) = H1 at s1 ht1 ⊢
  have eI : (if false = true then !inV (V.str c.word) [V.str "hole", V.str "on"] else inV (V.str c.word) [V.str "hole", V.str "on"]) = inV (V.str c.word) [V.str "hole", V.str "on"] := rfl
  rw [eI]
  rcases cel_kind c with ⟨e, ez⟩ | ⟨e, ez⟩ | ⟨e, ez⟩ | ⟨e, ez⟩ | ⟨e, ez⟩
  · have := 0
    have e1 : inV (V.str c.word) [V.str "hole", V.str "on"] = true := (by rw [e]; decide +kernel)
    rw [e1]
    refine ⟨_, rfl, ?_⟩
    refine iteT ?_
    have q' := q H1 s1
    rw [ez] at q'
    exact q'
  · have := 0
    have e1 : inV (V.str c.word) [V.str "hole", V.str "on"] = true := (by rw [e]; decide +kernel)
    rw [e1]
    refine ⟨_, rfl, ?_⟩
    refine iteT ?_
    have q' := q H1 s1
    rw [ez] at q'
    exact q'
  · obtain ⟨u2, xs, g1, g2, g3⟩ := h2 (.inl e)
    rw [show inV (V.str c.word) [V.str "hole", V.str "on"] = false by rw [e]; decide +kernel]
    refine ⟨_, rfl, ?_⟩
    refine iteF ?_
    refine ⟨_, rfl, t, _, 0, _, rfl, rfl, SqT.of ht1, h0, rfl, _, rfl, ?_⟩
    show if decide (V.str c.word = V.str "later") = true then _ else _
    rw [e, show decide (V.str ("later" : Str) = V.str "later") = true by decide +kernel]
    refine iteT ?_
    refine ⟨_, rfl, t, _, 2, _, rfl, rfl, SqT.of ht1, g1, u2, xs, rfl, .inr (SqT.of (s1 _ _ g2)), _, _, rfl, rfl, _, _, rfl, ?_⟩
    have q' := q H1 s1
    rw [ez, ← g3, ← max_int] at q'
    exact q'
  · have := 0
    have e1 : inV (V.str c.word) [V.str "hole", V.str "on"] = false := (by rw [e]; decide +kernel)
    have hl : c.word ≠ "later" := (by rw [e]; decide +kernel)
    have h : c.word = "later" ∨ c.word = "con" ∨ c.word = "part" := (.inr (.inl e))
    obtain ⟨u2, xs, g1, g2, g3⟩ := h2 h
    rw [e1]
    refine ⟨_, rfl, ?_⟩
    refine iteF ?_
    refine ⟨_, rfl, t, _, 0, _, rfl, rfl, SqT.of ht1, h0, rfl, _, rfl, ?_⟩
    show if decide (V.str c.word = V.str "later") = true then _ else _
    rw [show decide (V.str c.word = V.str "later") = false from decide_eq_false fun z => hl (V.str.inj z)]
    refine iteF ?_
    refine ⟨_, rfl, t, _, 2, _, rfl, rfl, SqT.of ht1, g1, u2, xs, rfl, .inr (SqT.of (s1 _ _ g2)), _, _, rfl, rfl, ?_⟩
    have q' := q H1 s1
    rw [ez, ← g3, ← add_int] at q'
    exact q'
  · have := 0
    have e1 : inV (V.str c.word) [V.str "hole", V.str "on"] = false := (by rw [e]; decide +kernel)
    have hl : c.word ≠ "later" := (by rw [e]; decide +kernel)
    have h : c.word = "later" ∨ c.word = "con" ∨ c.word = "part" := (.inr (.inr e))
    obtain ⟨u2, xs, g1, g2, g3⟩ := h2 h
    rw [e1]
    refine ⟨_, rfl, ?_⟩
    refine iteF ?_
    refine ⟨_, rfl, t, _, 0, _, rfl, rfl, SqT.of ht1, h0, rfl, _, rfl, ?_⟩
    show if decide (V.str c.word = V.str "later") = true then _ else _
    rw [show decide (V.str c.word = V.str "later") = false from decide_eq_false fun z => hl (V.str.inj z)]
    refine iteF ?_
    refine ⟨_, rfl, t, _, 2, _, rfl, rfl, SqT.of ht1, g1, u2, xs, rfl, .inr (SqT.of (s1 _ _ g2)), _, _, rfl, rfl, ?_⟩
    have q' := q H1 s1
    rw [ez, ← g3, ← add_int] at q'
    exact q'
end
end Toy

set_option Elab.async false
set_option linter.all false
set_option maxRecDepth 100000
set_option maxHeartbeats 4000000
/-! Part D: the class Heap. -/
namespace Toy
open PySem L2
open PyProof.Rows (envOfC)
theorem met_of {P : Program} {w : World} {K : PySem.W.Frag} {mg : Str → Option Value} {base : Heap} {C : Addr} {m qual : Str} {st : Stmt} {f : Addr} {fd : FuncData} {N ps : List Str} {k : Nat} {sp : Sp} (c : Cls K C) (me : Meth K C m f) (F : Fun K m qual st f fd) (b : Binds K fd ps []) (S : FnScope N ps (defScope st)) (len : ∀ vs H Q E, sp vs H Q E → vs.length = ps.length)
    (hbody : ∀ (cdv : Value) (A : Around) (outer : List Env) (s : Shared) (H : Hp) (vs : List V) (Q : VK) (E : XK), Room k (A.deeper (envOfC qual (defScope st) s.heap.objs.size f cdv)) → sp vs H Q E →
      ∃ t, PSs (cxOf CX0 P w K mg base N qual (defScope st) f cdv A outer s H E).nox (defBody st) t ∧ t { nx := fun _ H' => Q .non H', rt := Q } (start N vs) H) : C8.Met P w K mg base (k + 1) C m sp [] :=
  ⟨f, fd, ps, [], c, me, F.ok S len hbody, b, .nil⟩
def fldH (r u : Int) (d : Addr) (n : Int) : List (Str × V) := putF "next_address" (.int n) (putF "cells" (.ref d) (putF "used" (.int u) (putF "room" (.int r) [])))
theorem fr1 : ¬ ("room" : Str) = "used" ∧ ¬ ("room" : Str) = "cells" ∧ ¬ ("room" : Str) = "next_address" := by decide +kernel
theorem fr2 : ¬ ("used" : Str) = "cells" ∧ ¬ ("used" : Str) = "next_address" := by decide +kernel
theorem fr3 : ¬ ("cells" : Str) = "next_address" := by decide +kernel
theorem fldH_next (r u : Int) (d : Addr) (n : Int) : (fldH r u d n).lookup ("next_address" : Str) = some (.int n) := by
  unfold fldH
  rw [lookup_putF, if_pos rfl]
theorem fldH_cells (r u : Int) (d : Addr) (n : Int) : (fldH r u d n).lookup ("cells" : Str) = some (.ref d) := by
  unfold fldH
  rw [lookup_putF, if_neg fr3, lookup_putF, if_pos rfl]
theorem fldH_used (r u : Int) (d : Addr) (n : Int) : (fldH r u d n).lookup ("used" : Str) = some (.int u) := by
  unfold fldH
  rw [lookup_putF, if_neg fr2.2, lookup_putF, if_neg fr2.1, lookup_putF, if_pos rfl]
theorem fldH_room (r u : Int) (d : Addr) (n : Int) : (fldH r u d n).lookup ("room" : Str) = some (.int r) := by
  unfold fldH
  rw [lookup_putF, if_neg fr1.2.2, lookup_putF, if_neg fr1.2.1, lookup_putF, if_neg fr1.1, lookup_putF, if_pos rfl]
theorem fldH_no (r u : Int) (d : Addr) (n : Int) {m : Str} (h : ¬ m = "next_address" ∧ ¬ m = "cells" ∧ ¬ m = "used" ∧ ¬ m = "room") : (fldH r u d n).lookup m = none := by
  unfold fldH
  rw [lookup_putF, if_neg h.1, lookup_putF, if_neg h.2.1, lookup_putF, if_neg h.2.2.1, lookup_putF, if_neg h.2.2.2]
  all_goals rfl
theorem mnames : (¬ ("make" : Str) = "next_address" ∧ ¬ ("make" : Str) = "cells" ∧ ¬ ("make" : Str) = "used" ∧ ¬ ("make" : Str) = "room") ∧ (¬ ("cell" : Str) = "next_address" ∧ ¬ ("cell" : Str) = "cells" ∧ ¬ ("cell" : Str) = "used" ∧ ¬ ("cell" : Str) = "room") ∧
  (¬ ("put" : Str) = "next_address" ∧ ¬ ("put" : Str) = "cells" ∧ ¬ ("put" : Str) = "used" ∧ ¬ ("put" : Str) = "room") ∧ (¬ ("addresses" : Str) = "next_address" ∧ ¬ ("addresses" : Str) = "cells" ∧ ¬ ("addresses" : Str) = "used" ∧ ¬ ("addresses" : Str) = "room") ∧
  (¬ ("fits" : Str) = "next_address" ∧ ¬ ("fits" : Str) = "cells" ∧ ¬ ("fits" : Str) = "used" ∧ ¬ ("fits" : Str) = "room") ∧ (¬ ("renew" : Str) = "next_address" ∧ ¬ ("renew" : Str) = "cells" ∧ ¬ ("renew" : Str) = "used" ∧ ¬ ("renew" : Str) = "room") := by decide +kernel
theorem fldH_put_next (r u : Int) (d : Addr) (n m : Int) : putF "next_address" (.int m) (fldH r u d n) = fldH r u d m := by
  unfold fldH
  rfl
theorem fldH_put_used (r u v : Int) (d : Addr) (n : Int) : putF "used" (.int v) (fldH r u d n) = fldH r v d n := by
  unfold fldH
  rfl
theorem fldH_put_cells (r u : Int) (d e : Addr) (n : Int) : putF "cells" (.ref e) (fldH r u d n) = fldH r u e n := by
  unfold fldH
  rfl
/-- the rows of a heap: addresses and cells -/
abbrev Rws := List (Int × Cel)
def usedOf : Rws → Int
  | [] => 0
  | r :: rs => (r.2.size : Int) + usedOf rs
theorem usedOf_app : ∀ a b : Rws, usedOf (a ++ b) = usedOf a + usedOf b
  | [], b => by simp [usedOf]
  | r :: a, b => by
    show (r.2.size : Int) + usedOf (a ++ b) = (r.2.size : Int) + usedOf a + usedOf b
    rw [usedOf_app a b]
    omega
/-- a dict that holds just these rows, in this order -/
def KvAt (H : Hp) : Rws → List (Key × V) → Prop
  | [], kvs => kvs = []
  | r :: rs, kvs => ∃ v ks, kvs = (Sum.inl r.1, v) :: ks ∧ r.2.T.At H v ∧ KvAt H rs ks
theorem KvAt.keep {H H' : Hp} (t : TK H H') : ∀ {rs : Rws} {kvs : List (Key × V)}, KvAt H rs kvs → KvAt H' rs kvs
  | [], _, h => h
  | r :: rs, _, ⟨v, ks, e, h, hs⟩ => ⟨v, ks, e, h.keep t, KvAt.keep t hs⟩
theorem KvAt.keys {H : Hp} : ∀ {rs : Rws} {kvs : List (Key × V)}, KvAt H rs kvs → kvs.map (·.1) = (rs.map (·.1)).map Sum.inl
  | [], _, h => by cases h; rfl
  | r :: rs, _, ⟨v, ks, e, h, hs⟩ => by
    cases e
    show Sum.inl r.1 :: ks.map (·.1) = Sum.inl r.1 :: (rs.map (·.1)).map Sum.inl
    rw [KvAt.keys hs]
theorem KvAt.len {H : Hp} {rs : Rws} {kvs : List (Key × V)} (h : KvAt H rs kvs) : kvs.length = rs.length := by
  have e := congrArg List.length h.keys
  simpa using e
theorem KvAt.app {H : Hp} : ∀ {rs qs : Rws} {kvs ks : List (Key × V)}, KvAt H rs kvs → KvAt H qs ks → KvAt H (rs ++ qs) (kvs ++ ks)
  | [], _, _, _, h, k => by cases h; exact k
  | r :: rs, _, _, _, ⟨v, ks, e, h, hs⟩, k => by
    cases e
    exact ⟨v, _, rfl, h, KvAt.app hs k⟩
theorem KvAt.out {H : Hp} {a : Int} : ∀ {rs : Rws} {kvs : List (Key × V)}, KvAt H rs kvs → a ∉ rs.map (·.1) → valV kvs (Sum.inl a : Key) = none
  | [], _, h, _ => by cases h; rfl
  | r :: rs, _, ⟨v, ks, e, h, hs⟩, n => by
    cases e
    rw [List.map_cons, List.mem_cons, not_or] at n
    exact (valV_neg (p := (Sum.inl r.1, v)) fun z => n.1 (Sum.inl.inj z).symm).trans (KvAt.out hs n.2)
theorem KvAt.get {H : Hp} {a : Int} {c : Cel} : ∀ {rs : Rws} {kvs : List (Key × V)}, KvAt H rs kvs → (rs.map (·.1)).Nodup → (a, c) ∈ rs → ∃ v, valV kvs (Sum.inl a : Key) = some v ∧ c.T.At H v
  | [], _, _, _, m => by cases m
  | r :: rs, _, ⟨v, ks, e, h, hs⟩, n, m => by
    cases e
    rw [List.map_cons, List.nodup_cons] at n
    rcases List.mem_cons.mp m with z | z
    · subst z
      exact ⟨v, valV_pos (p := (Sum.inl a, v)) rfl, h⟩
    · have na : ¬ r.1 = a := fun q => n.1 (by rw [q]; exact List.mem_map.mpr ⟨_, z, rfl⟩)
      obtain ⟨u, h1, h2⟩ := KvAt.get hs n.2 z
      exact ⟨u, (valV_neg (p := (Sum.inl r.1, v)) fun z => na (Sum.inl.inj z)).trans h1, h2⟩
theorem KvAt.nth {H : Hp} : ∀ {rs : Rws} {kvs : List (Key × V)} {i : Nat} {x : V}, KvAt H rs kvs → (kvs.map (·.2))[i]? = some x → ∃ r, rs[i]? = some r ∧ r.2.T.At H x
  | [], _, i, x, h, e => by cases h; simp at e
  | r :: rs, _, 0, x, ⟨v, ks, e, h, hs⟩, ex => by
    cases e
    cases ex
    exact ⟨r, rfl, h⟩
  | r :: rs, _, i + 1, x, ⟨v, ks, e, h, hs⟩, ex => by
    cases e
    exact KvAt.nth (rs := rs) (i := i) hs ex
theorem used_sum : ∀ rs : Rws, (rs.map fun r => (r.2.size : Int)).sum = usedOf rs
  | [] => rfl
  | r :: rs => by
    rw [List.map_cons, List.sum_cons, used_sum rs]
    rfl
/-- the rows with another cell at the i-th place -/
def setAt (i : Nat) (c : Cel) (rs : Rws) : Rws := rs.set i ((rs[i]?.map (·.1)).getD 0, c)
theorem setAt_keys (i : Nat) (c : Cel) (rs : Rws) : (setAt i c rs).map (·.1) = rs.map (·.1) := by
  unfold setAt
  rw [List.map_set]
  cases h : rs[i]? with
  | none =>
    rw [List.set_eq_of_length_le]
    rw [List.length_map]
    exact List.getElem?_eq_none_iff.mp h
  | some r =>
    refine List.ext_getElem? fun j => ?_
    rw [List.getElem?_set]
    by_cases e : i = j
    · subst e
      rw [if_pos rfl, List.getElem?_map, h, List.length_map]
      have := (List.getElem?_eq_some_iff.mp h).1
      rw [if_pos this]
      rfl
    · rw [if_neg e]
theorem setAt_cons (i : Nat) (c : Cel) (r : Int × Cel) (rs : Rws) : setAt (i + 1) c (r :: rs) = r :: setAt i c rs := rfl
theorem usedOf_set : ∀ {rs : Rws} {i : Nat} {a : Int} {c d : Cel}, rs[i]? = some (a, d) → usedOf (setAt i c rs) = usedOf rs + ((c.size : Int) - (d.size : Int))
  | [], i, a, c, d, h => by simp at h
  | r :: rs, 0, a, c, d, h => by
    cases h
    show (c.size : Int) + usedOf rs = (d.size : Int) + usedOf rs + _
    omega
  | r :: rs, i + 1, a, c, d, h => by
    rw [setAt_cons]
    show (r.2.size : Int) + usedOf (setAt i c rs) = (r.2.size : Int) + usedOf rs + _
    rw [usedOf_set (rs := rs) (i := i) (a := a) h]
    omega
theorem putK_cons_pos {k : Key} {v u : V} {ks : List (Key × V)} (hn : valV ks k = none) : putK ((k, v) :: ks) k u = (k, u) :: ks := by
  unfold putK
  rw [if_pos (by simp)]
  rw [List.map_cons, if_pos rfl]
  congr 1
  refine (List.map_congr_left fun p hp => ?_).trans (List.map_id _)
  rw [if_neg]
  · rfl
  · intro e
    have : (ks.any fun kv => decide (kv.1 = k)) = true := List.any_eq_true.mpr ⟨p, hp, by rw [e]; exact decide_eq_true rfl⟩
    rw [valV_any, hn] at this
    cases this
theorem putK_cons_neg {j k : Key} {v u : V} {ks : List (Key × V)} (n : ¬ j = k) : putK ((j, v) :: ks) k u = (j, v) :: putK ks k u := by
  unfold putK
  have e : (((j, v) :: ks).any fun kv => decide (kv.1 = k)) = (ks.any fun kv => decide (kv.1 = k)) := by
    rw [List.any_cons, show decide (((j, v) : Key × V).1 = k) = false from decide_eq_false n, Bool.false_or]
  rw [e]
  split
  · rw [List.map_cons, if_neg (show ¬ ((j, v) : Key × V).1 = k from n)]
  · rfl
theorem KvAt.set {H : Hp} {a : Int} {c d : Cel} {u : V} (hu : c.T.At H u) : ∀ {rs : Rws} {kvs : List (Key × V)} {i : Nat}, KvAt H rs kvs → (rs.map (·.1)).Nodup → rs[i]? = some (a, d) → KvAt H (setAt i c rs) (putK kvs (Sum.inl a : Key) u)
  | [], _, i, _, _, m => by simp at m
  | r :: rs, _, 0, ⟨v, ks, e, h, hs⟩, n, m => by
    cases e
    cases m
    rw [List.map_cons, List.nodup_cons] at n
    rw [putK_cons_pos (KvAt.out hs n.1)]
    exact ⟨u, ks, rfl, hu, hs⟩
  | r :: rs, _, i + 1, ⟨v, ks, e, h, hs⟩, n, m => by
    cases e
    rw [List.map_cons, List.nodup_cons] at n
    have m' : rs[i]? = some (a, d) := m
    have na : ¬ (Sum.inl r.1 : Key) = Sum.inl a := fun q => n.1 (by rw [Sum.inl.inj q]; exact List.mem_map.mpr ⟨(a, d), List.mem_of_getElem? m', rfl⟩)
    rw [putK_cons_neg na, setAt_cons]
    exact ⟨v, _, rfl, h, KvAt.set hu hs n.2 m'⟩
structure TxtH (K : PySem.W.Frag) (mg : Str → Option Value) (C : Addr) : Prop where
  zsorted : mg "sorted" = none
  zdict : mg "dict" = none
  zsum : mg "sum" = none
  zlist : mg "list" = none
  cl : Cls K C
  nR : NoAttr K C "room"
  nU : NoAttr K C "used"
  nC : NoAttr K C "cells"
  nN : NoAttr K C "next_address"
/-- a heap stands at o, its dict at d -/
structure HpAt (C : Addr) (H : Hp) (o d : Addr) (room next : Int) (rs : Rws) : Prop where
  ob : ∃ dx, H o = some (.ins C dx (fldH room (usedOf rs) d next))
  kv : ∃ kvs, H d = some (.dK kvs) ∧ KvAt H rs kvs
  nd : (rs.map (·.1)).Nodup
  len : rs.length < 64
  wl : ∀ r ∈ rs, r.2.wlen ≤ 1000
theorem HpAt.same {C : Addr} {H H' : Hp} {o d : Addr} {room next : Int} {rs : Rws} (h : HpAt C H o d room next rs) (s : Same H H') : HpAt C H' o d room next rs := by
  obtain ⟨dx, e1⟩ := h.ob
  obtain ⟨kvs, e2, e3⟩ := h.kv
  exact { h with ob := ⟨dx, s _ _ e1⟩, kv := ⟨kvs, s _ _ e2, e3.keep (tk_same s)⟩ }
/-- all but o and d stays -/
def Keep2 (o d : Addr) (H H' : Hp) : Prop := ∀ b u, b ≠ o → b ≠ d → H b = some u → H' b = some u
theorem HpAt.tk {C : Addr} {H H' : Hp} {o d : Addr} {room next : Int} {rs : Rws} (h : HpAt C H o d room next rs) (k : Keep2 o d H H') : TK H H' := fun a xs e => by
  obtain ⟨dx, e1⟩ := h.ob
  obtain ⟨kvs, e2, e3⟩ := h.kv
  exact k _ _ (fun z => by rw [z, e1] at e; cases e) (fun z => by rw [z, e2] at e; cases e) e
section
variable {P : Program} {w : World} {K : PySem.W.Frag} {mg : Str → Option Value} {base : Heap} {C : Addr}
abbrev sInit : Stmt := inClass (topS 3) 0
theorem scInit : FnScope ["self", "room"] ["self", "room"] (defScope sInit) := ⟨rfl, rfl, rfl, by decide +kernel, rfl, by decide +kernel, by decide +kernel⟩
def spInit (C : Addr) : Sp := fun vs H Q _ => ∃ (o dx : Addr) (room : Int), vs = [.ref o, .int room] ∧ H o = some (.ins C dx []) ∧ ∀ (d : Addr) (H' : Hp), H d = none → HpAt C H' o d room 0 [] → (∀ b u, H b = some u → b ≠ o → H' b = some u) → Q .non H'
theorem c_init {f : Addr} {fd : FuncData} (T : TxtH K mg C) (M : Mk K C f) (mC : mg "Heap" = some (.ref C)) (F : Fun K "__init__" "Heap.__init__" sInit f fd) (b : Binds K fd ["self", "room"] []) : C8.Mak P w K mg base 1 "Heap" C (spInit C) [] := by
  refine ⟨f, fd, ["self", "room"], [], M, F.ok scInit (fun vs H Q E h => ?_) (fun cdv A outer s H vs Q E hr h => ?_), mC, b, .nil⟩
  · obtain ⟨o, dx, room, rfl, _⟩ := h
    rfl
  obtain ⟨o, dx, room, rfl, ho, q⟩ := h
  refine ⟨_, (pss_cons (ps_fld (pv 0) (pv 1) rfl)
    (pss_cons (ps_fld (pv 0) pe_int rfl)
    (pss_cons (ps_fld (pv 0) pe_dnewK rfl)
    (pss_one (ps_fld (pv 0) pe_int rfl))))), ?_⟩
  refine ⟨_, rfl, _, rfl, o, C, dx, [], rfl, ho, T.cl, T.nR, (by show 0 < 1000; decide), ?_⟩
  refine ⟨_, rfl, o, C, dx, _, rfl, upd_same, T.cl, T.nU, (by show 1 < 1000; decide), ?_⟩
  intro d hd
  have nod : o ≠ d := fun e => by rw [← e, upd_same] at hd; cases hd
  have hd0 : H d = none := by rw [upd_ne nod.symm, upd_ne nod.symm] at hd; exact hd
  refine ⟨_, rfl, o, C, dx, _, rfl, (by rw [upd_ne nod, upd_same]), T.cl, T.nC, (by show 2 < 1000; decide), ?_⟩
  refine ⟨_, rfl, o, C, dx, _, rfl, upd_same, T.cl, T.nN, (by show 3 < 1000; decide), ?_⟩
  refine q d _ hd0 ⟨⟨dx, upd_same⟩, ⟨[], ?_, rfl⟩, List.nodup_nil, by decide, fun r h => by cases h⟩ fun x u hx hxo => ?_
  · rw [upd_ne nod.symm, upd_ne nod.symm, upd_same]
  · rw [upd_ne hxo, upd_ne hxo, upd_ne (ne_of_none hx hd0), upd_ne hxo, upd_ne hxo]
    exact hx
abbrev sMake : Stmt := inClass (topS 3) 1
theorem scMake : FnScope ["self", "cell", "address"] ["self", "cell"] (defScope sMake) := ⟨rfl, rfl, rfl, by decide +kernel, rfl, by decide +kernel, by decide +kernel⟩
def spMake (C : Addr) : Sp := fun vs H Q _ => ∃ (o d : Addr) (room next : Int) (rs : Rws) (v : V) (c : Cel), vs = [.ref o, v] ∧ HpAt C H o d room next rs ∧ c.T.At H v ∧ c.wlen ≤ 1000 ∧ next ∉ rs.map (·.1) ∧ rs.length < 63 ∧ ∀ H', Keep2 o d H H' → HpAt C H' o d room (next + 1) (rs ++ [(next, c)]) → Q (.int next) H'
theorem c_make {f : Addr} {fd : FuncData} (T : TxtH K mg C) (csize_of : C8.Cal P w K mg base 1 "size_of" spSize []) (me : Meth K C "make" f) (F : Fun K "make" "Heap.make" sMake f fd) (b : Binds K fd ["self", "cell"] []) : C8.Met P w K mg base 2 C "make" (spMake C) [] := by
  refine met_of T.cl me F b scMake (fun vs H Q E h => ?_) (fun cdv A outer s H vs Q E hr h => ?_)
  · obtain ⟨o, d, room, next, rs, v, c, rfl, _⟩ := h
    rfl
  obtain ⟨o, d, room, next, rs, v, c, rfl, ⟨⟨dx, ho⟩, ⟨kvs, hd, hkv⟩, hnd, hlen, hwl⟩, hat, hcw, hnew, h63, q⟩ := h
  have hu := hu_of hr
  have nod : o ≠ d := fun e => by rw [e, hd] at ho; cases ho
  refine ⟨_, (pss_cons (ps_set (i := 2) scMake.nd rfl (Or.inl rfl) (pe_fld (pv 0) rfl))
    (pss_cons (ps_fldaug (pv 0) pe_int ip_add)
    (pss_cons (ps_dput hu (pe_fld (pv 0) rfl) (pv 2) (pv 1) rfl)
    (pss_cons (ps_fldaug (pv 0) (C8.pe_c csize_of hr (by decide) rfl (pa_cons (pv 1) pa_nil)) ip_add)
    (pss_one (ps_ret (pv 2))))))), ?_⟩
  refine ⟨_, rfl, o, C, dx, _, .int next, rfl, ho, T.cl, T.nN, fldH_next _ _ _ _, ?_⟩
  have lu : ∀ u n, (fldH room u d n).length < 1000 := fun u n => by show 4 < 1000; decide
  refine ⟨_, rfl, o, C, dx, _, .int next, rfl, ho, T.cl, T.nN, fldH_next _ _ _ _, next, 1, rfl, rfl, dx, _, ho, lu _ _, ?_⟩
  rw [fldH_put_next]
  have ho1 : upd H o (.ins C dx (fldH room (usedOf rs) d (next + 1))) o = some (.ins C dx (fldH room (usedOf rs) d (next + 1))) := upd_same
  have hd1 : upd H o (.ins C dx (fldH room (usedOf rs) d (next + 1))) d = some (.dK kvs) := by rw [upd_ne nod.symm]; exact hd
  have t1 : TK H (upd H o (.ins C dx (fldH room (usedOf rs) d (next + 1)))) := tk_upd fun xs e => by rw [ho] at e; cases e
  have k1 : Keep2 o d H (upd H o (.ins C dx (fldH room (usedOf rs) d (next + 1)))) := fun b u n1 n2 e => by rw [upd_ne n1]; exact e
  generalize upd H o (.ins C dx (fldH room (usedOf rs) d (next + 1))) = H1 at ho1 hd1 t1 k1 ⊢
  have hl : kvs.length = rs.length := hkv.len
  refine ⟨_, rfl, _, rfl, o, C, dx, _, .ref d, rfl, ho1, T.cl, T.nC, fldH_cells _ _ _ _, _, rfl, d, _, rfl, DPut.k (k := Sum.inl next) hd1 (by have := szl (n := 64) (by decide); show kvs.length < sizeLine; omega), ?_⟩
  rw [putK_new _ (hkv.out hnew)]
  have hd2 : upd H1 d (.dK (kvs ++ [(Sum.inl next, v)])) d = some (.dK (kvs ++ [(Sum.inl next, v)])) := upd_same
  have ho2 : upd H1 d (.dK (kvs ++ [(Sum.inl next, v)])) o = some (.ins C dx (fldH room (usedOf rs) d (next + 1))) := by rw [upd_ne nod]; exact ho1
  have t2 : TK H (upd H1 d (.dK (kvs ++ [(Sum.inl next, v)]))) := t1.trans (tk_dict hd1)
  have k2 : Keep2 o d H (upd H1 d (.dK (kvs ++ [(Sum.inl next, v)]))) := fun b u n1 n2 e => by rw [upd_ne n2]; exact k1 _ _ n1 n2 e
  generalize upd H1 d (.dK (kvs ++ [(Sum.inl next, v)])) = H2 at hd2 ho2 t2 k2 ⊢
  refine ⟨_, rfl, o, C, dx, _, .int (usedOf rs), rfl, ho2, T.cl, T.nU, fldH_used _ _ _ _, _, rfl, v, c, rfl, hat.keep t2, hcw, fun H3 s3 => ?_⟩
  have ho3 := s3 _ _ ho2
  refine ⟨_, _, rfl, rfl, dx, _, ho3, lu _ _, ?_⟩
  rw [fldH_put_used]
  have t3 := t2.trans (tk_same s3)
  have t4 : TK H3 (upd H3 o (.ins C dx (fldH room (usedOf rs + (c.size : Int)) d (next + 1)))) := tk_upd fun xs e => by rw [ho3] at e; cases e
  have t34 := t3.trans t4
  refine ⟨_, rfl, q _ (fun b u n1 n2 e => by rw [upd_ne n1]; exact s3 _ _ (k2 _ _ n1 n2 e)) ⟨⟨dx, ?_⟩, ⟨kvs ++ [(Sum.inl next, v)], by rw [upd_ne nod.symm]; exact s3 _ _ hd2, (hkv.keep t34).app ⟨v, [], rfl, hat.keep t34, rfl⟩⟩, ?_, ?_, ?_⟩⟩
  · rw [upd_same, usedOf_app]
    show some (HO.ins C dx (fldH room (usedOf rs + (c.size : Int)) d (next + 1))) = some (HO.ins C dx (fldH room (usedOf rs + ((c.size : Int) + 0)) d (next + 1)))
    rw [Int.add_zero]
  · rw [List.map_append, List.nodup_append]
    exact ⟨hnd, List.pairwise_singleton .., fun x hx y hy e => by
      rw [List.map_cons, List.map_nil, List.mem_singleton] at hy
      subst e
      rw [hy] at hx
      exact hnew hx⟩
  · rw [List.length_append]; show rs.length + 1 < 64; omega
  · intro r hr
    rcases List.mem_append.mp hr with h | h
    · exact hwl r h
    · rw [List.mem_singleton.mp h]; exact hcw
abbrev sCell : Stmt := inClass (topS 3) 2
theorem scCell : FnScope ["self", "address"] ["self", "address"] (defScope sCell) := ⟨rfl, rfl, rfl, by decide +kernel, rfl, by decide +kernel, by decide +kernel⟩
def spCell (C : Addr) : Sp := fun vs H Q _ => ∃ (o d : Addr) (room next : Int) (rs : Rws) (a : Int) (c : Cel), vs = [.ref o, .int a] ∧ HpAt C H o d room next rs ∧ (a, c) ∈ rs ∧ ∀ v, c.T.At H v → Q v H
theorem c_cell {f : Addr} {fd : FuncData} (T : TxtH K mg C) (me : Meth K C "cell" f) (F : Fun K "cell" "Heap.cell" sCell f fd) (b : Binds K fd ["self", "address"] []) : C8.Met P w K mg base 1 C "cell" (spCell C) [] := by
  refine met_of T.cl me F b scCell (fun vs H Q E h => ?_) (fun cdv A outer s H vs Q E hr h => ?_)
  · obtain ⟨o, d, room, next, rs, a, c, rfl, _⟩ := h
    rfl
  obtain ⟨o, d, room, next, rs, a, c, rfl, ⟨⟨dx, ho⟩, ⟨kvs, hd, hkv⟩, hnd, hlen, hwl⟩, hm, q⟩ := h
  have hu := hu_of hr
  refine ⟨_, (pss_one (ps_ret (pe_dget hu (pe_fld (pv 0) rfl) (pv 1) (fun _ _ => rfl)))), ?_⟩
  obtain ⟨v, hv, hat⟩ := hkv.get hnd hm
  exact ⟨_, rfl, o, C, dx, _, .ref d, rfl, ho, T.cl, T.nC, fldH_cells _ _ _ _, _, rfl, d, v, rfl, hv ▸ DGet.k (k := Sum.inl a) hd, q v hat⟩
abbrev sPut : Stmt := inClass (topS 3) 3
theorem scPut : FnScope ["self", "address", "cell"] ["self", "address", "cell"] (defScope sPut) := ⟨rfl, rfl, rfl, by decide +kernel, rfl, by decide +kernel, by decide +kernel⟩
def spPut (C : Addr) : Sp := fun vs H Q _ => ∃ (o d : Addr) (room next : Int) (rs : Rws) (i : Nat) (a : Int) (v : V) (c e : Cel), vs = [.ref o, .int a, v] ∧ HpAt C H o d room next rs ∧ rs[i]? = some (a, e) ∧ c.T.At H v ∧ c.wlen ≤ 1000 ∧ ∀ H', Keep2 o d H H' → HpAt C H' o d room next (setAt i c rs) → Q .non H'
theorem c_put {f : Addr} {fd : FuncData} (T : TxtH K mg C) (csize_of : C8.Cal P w K mg base 1 "size_of" spSize []) (me : Meth K C "put" f) (F : Fun K "put" "Heap.put" sPut f fd) (b : Binds K fd ["self", "address", "cell"] []) : C8.Met P w K mg base 2 C "put" (spPut C) [] := by
  refine met_of T.cl me F b scPut (fun vs H Q E h => ?_) (fun cdv A outer s H vs Q E hr h => ?_)
  · obtain ⟨o, d, room, next, rs, i, a, v, c, e, rfl, _⟩ := h
    rfl
  obtain ⟨o, d, room, next, rs, i, a, v, c, e, rfl, ⟨⟨dx, ho⟩, ⟨kvs, hd, hkv⟩, hnd, hlen, hwl⟩, hi, hat, hcw, q⟩ := h
  have hu := hu_of hr
  have nod : o ≠ d := fun e => by rw [e, hd] at ho; cases ho
  refine ⟨_, (pss_cons (ps_fldaug (pv 0) (pe_op op_sub (C8.pe_c csize_of hr (by decide) rfl (pa_cons (pv 2) pa_nil)) (C8.pe_c csize_of hr (by decide) rfl (pa_cons (pe_dget hu (pe_fld (pv 0) rfl) (pv 1) (fun _ _ => rfl)) pa_nil))) ip_add)
    (pss_one (ps_dput hu (pe_fld (pv 0) rfl) (pv 1) (pv 2) rfl))), ?_⟩
  have hm : (a, e) ∈ rs := List.mem_of_getElem? hi
  obtain ⟨v', hv', hat'⟩ := hkv.get hnd hm
  have lu : ∀ u n, (fldH room u d n).length < 1000 := fun u n => by show 4 < 1000; decide
  refine ⟨_, rfl, o, C, dx, _, .int (usedOf rs), rfl, ho, T.cl, T.nU, fldH_used _ _ _ _, _, rfl, v, c, rfl, hat, hcw, fun H1 s1 => ?_⟩
  have ho1 := s1 _ _ ho
  have hd1 := s1 _ _ hd
  refine ⟨_, rfl, o, C, dx, _, .ref d, rfl, ho1, T.cl, T.nC, fldH_cells _ _ _ _, _, rfl, d, v', rfl, hv' ▸ DGet.k (k := Sum.inl a) hd1, v', e, rfl, hat'.keep (tk_same s1), hwl _ hm, fun H2 s2 => ?_⟩
  have ho2 := s2 _ _ ho1
  have hd2 := s2 _ _ hd1
  have s02 := sameT s1 s2
  refine ⟨_, _, rfl, rfl, _, _, rfl, rfl, dx, _, ho2, lu _ _, ?_⟩
  rw [fldH_put_used]
  have t3 : TK H2 (upd H2 o (.ins C dx (fldH room (usedOf rs + ((c.size : Int) - (e.size : Int))) d next))) := tk_upd fun xs e => by rw [ho2] at e; cases e
  have ho3 : upd H2 o (.ins C dx (fldH room (usedOf rs + ((c.size : Int) - (e.size : Int))) d next)) o = some (.ins C dx (fldH room (usedOf rs + ((c.size : Int) - (e.size : Int))) d next)) := upd_same
  have hd3 : upd H2 o (.ins C dx (fldH room (usedOf rs + ((c.size : Int) - (e.size : Int))) d next)) d = some (.dK kvs) := by rw [upd_ne nod.symm]; exact hd2
  have k3 : Keep2 o d H (upd H2 o (.ins C dx (fldH room (usedOf rs + ((c.size : Int) - (e.size : Int))) d next))) := fun b u n1 n2 e => by rw [upd_ne n1]; exact s02 _ _ e
  have t03 := (tk_same s02).trans t3
  generalize upd H2 o (.ins C dx (fldH room (usedOf rs + ((c.size : Int) - (e.size : Int))) d next)) = H3 at t3 ho3 hd3 k3 t03 ⊢
  refine ⟨_, rfl, _, rfl, o, C, dx, _, .ref d, rfl, ho3, T.cl, T.nC, fldH_cells _ _ _ _, _, rfl, d, _, rfl, DPut.k (k := Sum.inl a) hd3 (by have := szl (n := 64) (by decide); have := hkv.len; show kvs.length < sizeLine; omega), ?_⟩
  have t4 := t03.trans (tk_dict (o := .dK (putK kvs (Sum.inl a) v)) hd3)
  refine q _ (fun b u n1 n2 e => by rw [upd_ne n2]; exact k3 _ _ n1 n2 e) ⟨⟨dx, by rw [upd_ne nod, usedOf_set hi]; exact ho3⟩, ⟨_, upd_same, KvAt.set (hat.keep t4) (hkv.keep t4) hnd hi⟩, by rw [setAt_keys]; exact hnd, by
    have := congrArg List.length (setAt_keys i c rs)
    rw [List.length_map, List.length_map] at this
    omega, fun r hr => ?_⟩
  unfold setAt at hr
  rcases List.mem_or_eq_of_mem_set hr with h | h
  · exact hwl r h
  · rw [h]; exact hcw
abbrev sAddrs : Stmt := inClass (topS 3) 4
theorem scAddrs : FnScope ["self"] ["self"] (defScope sAddrs) := ⟨rfl, rfl, rfl, by decide +kernel, rfl, by decide +kernel, by decide +kernel⟩
def spAddrs (C : Addr) : Sp := fun vs H Q _ => ∃ (o d : Addr) (room next : Int) (rs : Rws), vs = [.ref o] ∧ HpAt C H o d room next rs ∧ ∀ (p : Addr) (zs : List Int) (H' : Hp), H p = none → Same H H' → H' p = some (.lst (zs.map V.int)) → zs.Perm (rs.map (·.1)) → zs.Pairwise (· ≤ ·) → Q (.ref p) H'
theorem c_addrs {f : Addr} {fd : FuncData} (T : TxtH K mg C) (me : Meth K C "addresses" f) (F : Fun K "addresses" "Heap.addresses" sAddrs f fd) (b : Binds K fd ["self"] []) : C8.Met P w K mg base 1 C "addresses" (spAddrs C) [] := by
  refine met_of T.cl me F b scAddrs (fun vs H Q E h => ?_) (fun cdv A outer s H vs Q E hr h => ?_)
  · obtain ⟨o, d, room, next, rs, rfl, _⟩ := h
    rfl
  obtain ⟨o, d, room, next, rs, rfl, ⟨⟨dx, ho⟩, ⟨kvs, hd, hkv⟩, hnd, hlen, hwl⟩, q⟩ := h
  refine ⟨_, (pss_one (ps_ret (pe_callB (call_sortedDI rfl) rfl T.zsorted PyProof.Rows.boot_sorted (pa_cons (pe_fld (pv 0) rfl) pa_nil)))), ?_⟩
  exact ⟨_, rfl, o, C, dx, _, .ref d, rfl, ho, T.cl, T.nC, fldH_cells _ _ _ _, d, kvs, _, rfl, Rd.of hd, hkv.keys, by rw [List.length_map]; exact hlen, fun zs p pm up hp => q p zs _ hp (same_new hp _) upd_same pm up⟩
abbrev sFits : Stmt := inClass (topS 3) 5
theorem scFits : FnScope ["self", "size"] ["self", "size"] (defScope sFits) := ⟨rfl, rfl, rfl, by decide +kernel, rfl, by decide +kernel, by decide +kernel⟩
def spFits (C : Addr) : Sp := fun vs H Q _ => ∃ (o d : Addr) (room next z : Int) (rs : Rws), vs = [.ref o, .int z] ∧ HpAt C H o d room next rs ∧ Q (.bl (decide (usedOf rs + z ≤ room))) H
theorem c_fits {f : Addr} {fd : FuncData} (T : TxtH K mg C) (me : Meth K C "fits" f) (F : Fun K "fits" "Heap.fits" sFits f fd) (b : Binds K fd ["self", "size"] []) : C8.Met P w K mg base 1 C "fits" (spFits C) [] := by
  refine met_of T.cl me F b scFits (fun vs H Q E h => ?_) (fun cdv A outer s H vs Q E hr h => ?_)
  · obtain ⟨o, d, room, next, z, rs, rfl, _⟩ := h
    rfl
  obtain ⟨o, d, room, next, z, rs, rfl, ⟨⟨dx, ho⟩, ⟨kvs, hd, hkv⟩, hnd, hlen, hwl⟩, q⟩ := h
  refine ⟨_, (pss_one (ps_ret (pe_cmpR op_le (pe_op op_add (pe_fld (pv 0) rfl) (pv 1)) (pe_fld (pv 0) rfl) (nomark _)))), ?_⟩
  refine ⟨_, rfl, o, C, dx, _, .int (usedOf rs), rfl, ho, T.cl, T.nU, fldH_used _ _ _ _, _, rfl, _, _, rfl, rfl, _, rfl, o, C, dx, _, .int room, rfl, ho, T.cl, T.nR, fldH_room _ _ _ _, _, _, rfl, rfl, ?_⟩
  exact q
abbrev sRenew : Stmt := inClass (topS 3) 6
theorem scRenew : FnScope ["self", "cells", "next_address", "cell"] ["self", "cells", "next_address"] (defScope sRenew) := ⟨rfl, rfl, rfl, by decide +kernel, rfl, by decide +kernel, by decide +kernel⟩
def spRenew (C : Addr) : Sp := fun vs H Q _ => ∃ (o d e : Addr) (room next next' : Int) (rs qs : Rws) (kvs : List (Key × V)), vs = [.ref o, .ref e, .int next'] ∧ HpAt C H o d room next rs ∧ H e = some (.dK kvs) ∧ KvAt H qs kvs ∧ (qs.map (·.1)).Nodup ∧ qs.length < 64 ∧ (∀ r ∈ qs, r.2.wlen ≤ 1000) ∧
  ∀ (d' : Addr) (H' : Hp), H d' = none → (∀ b u, b ≠ o → H b = some u → H' b = some u) → HpAt C H' o d' room next' qs → Q .non H'
theorem c_renew {f : Addr} {fd : FuncData} (T : TxtH K mg C) (csize_of : C8.Cal P w K mg base 1 "size_of" spSize []) (me : Meth K C "renew" f) (F : Fun K "renew" "Heap.renew" sRenew f fd) (b : Binds K fd ["self", "cells", "next_address"] []) : C8.Met P w K mg base 2 C "renew" (spRenew C) [] := by
  refine met_of T.cl me F b scRenew (fun vs H Q E h => ?_) (fun cdv A outer s H vs Q E hr h => ?_)
  · obtain ⟨o, d, e, room, next, next', rs, qs, kvs, rfl, _⟩ := h
    rfl
  obtain ⟨o, d, e, room, next, next', rs, qs, kvs, rfl, ⟨⟨dx, ho⟩, ⟨kvs0, hd, hkv0⟩, hnd, hlen, hwl⟩, he, hkv, hnq, hql, hqw, q⟩ := h
  have hu := hu_of hr
  have lu : ∀ r u d n, (fldH r u d n).length < 1000 := fun r u d n => by show 4 < 1000; decide
  refine ⟨_, (pss_cons (ps_fld (pv 0) (pe_callTy call_dictD rfl T.zdict boot_dict (pa_cons (pv 1) pa_nil)) rfl)
    (pss_cons (ps_fld (pv 0) (pv 2) rfl)
    (pss_one (ps_fld (pv 0) (pe_callB (cr_sum rfl) rfl T.zsum boot_sum (pa_cons (pe_lc (own := [("cell", 3)]) (g := gName 3) (tt := tYes) rfl scRenew.nd (pi_list (pe_listVals rfl rfl T.zlist (pv 1))) (blkOk_by (own := [("cell", 3)]) (N := ["self", "cells", "next_address", "cell"]) (sc := defScope sRenew) (by decide +kernel)) (fun _ _ _ _ _ => (pg_name (i := 3) scRenew.nd rfl (Or.inl rfl))) (fun _ _ _ _ _ => pts_nil) (fun _ _ _ _ _ => (C8.pe_c csize_of hr (by decide) rfl (pa_cons (pv 3) pa_nil)))) pa_nil)) rfl)))), ?_⟩
  refine ⟨_, rfl, e, kvs, rfl, Rd.of he, fun d' hd' => ?_⟩
  have s1 := same_new hd' (.dK kvs)
  have e1 : upd H d' (.dK kvs) d' = some (.dK kvs) := upd_same
  generalize upd H d' (.dK kvs) = H1 at s1 e1 ⊢
  have nod : o ≠ d' := ne_of_none ho hd'
  have noe : e ≠ o := fun z => by rw [z, ho] at he; cases he
  have ho1 := s1 _ _ ho
  refine ⟨_, rfl, o, C, dx, _, rfl, ho1, T.cl, T.nC, lu _ _ _ _, ?_⟩
  rw [fldH_put_cells]
  have t2 : TK H1 (upd H1 o (.ins C dx (fldH room (usedOf rs) d' next))) := tk_upd fun xs z => by rw [ho1] at z; cases z
  refine ⟨_, rfl, _, rfl, o, C, dx, _, rfl, upd_same, T.cl, T.nN, lu _ _ _ _, ?_⟩
  rw [fldH_put_next, upd_upd]
  have t3 : TK H1 (upd H1 o (.ins C dx (fldH room (usedOf rs) d' next'))) := tk_upd fun xs z => by rw [ho1] at z; cases z
  have ho3 : upd H1 o (.ins C dx (fldH room (usedOf rs) d' next')) o = some (.ins C dx (fldH room (usedOf rs) d' next')) := upd_same
  have hd3 : upd H1 o (.ins C dx (fldH room (usedOf rs) d' next')) d' = some (.dK kvs) := by rw [upd_ne nod.symm]; exact e1
  have he3 : upd H1 o (.ins C dx (fldH room (usedOf rs) d' next')) e = some (.dK kvs) := by rw [upd_ne noe]; exact s1 _ _ he
  have k3 : ∀ b u, b ≠ o → H b = some u → upd H1 o (.ins C dx (fldH room (usedOf rs) d' next')) b = some u := fun b u nb z => by rw [upd_ne nb]; exact s1 _ _ z
  have t03 := (tk_same s1).trans t3
  generalize upd H1 o (.ins C dx (fldH room (usedOf rs) d' next')) = H3 at t3 ho3 hd3 he3 k3 t03 ⊢
  refine ⟨_, rfl, e, kvs, rfl, he3, fun vl hvl => ⟨vl, rfl, ⟨_, SqL.of upd_same⟩, fun D hD => ?_⟩⟩
  have s4 := same_new hvl (.lst (kvs.map (·.2)))
  have e4 : upd H3 vl (.lst (kvs.map (·.2))) vl = some (.lst (kvs.map (·.2))) := upd_same
  generalize upd H3 vl (.lst (kvs.map (·.2))) = H4 at s4 e4 hD ⊢
  have t4 := t03.trans (tk_same s4)
  have hkv4 := hkv.keep t4
  have hl4 := hkv.len
  refine lc_list (K := K) (a := vl) (xs := kvs.map (·.2)) (fun i G => Same H4 G ∧ G D = some (.lst ((((qs.take i).map fun r => (r.2.size : Int))).map V.int))) ⟨same_new hD _, upd_same⟩ (fun i G hi ⟨h1, h2⟩ => SqL.of (h1 _ _ e4)) ?_ ?_
  · rintro i x G hx ⟨h1, h2⟩
    obtain ⟨r, hr, hat⟩ := hkv4.nth hx
    have hil : i < qs.length := (List.getElem?_eq_some_iff.mp hr).1
    refine ⟨rfl, ?_⟩
    refine tYes_if ?_
    refine ⟨_, rfl, x, r.2, rfl, hat.keep (tk_same h1), hqw r (List.mem_of_getElem? hr), fun G2 s5 => ?_⟩
    refine ⟨_, s5 _ _ h2, ?_, same_upd hD (sameT h1 s5) _, ?_⟩
    · rw [List.length_map, List.length_map, List.length_take]
      exact szl (by omega)
    · rw [upd_same, List.take_add_one, hr, List.map_append, List.map_append]
      rfl
  · rintro G ⟨h1, h2⟩
    rw [List.length_map, hl4, List.take_length] at h2
    have hoG := h1 _ _ (s4 _ _ ho3)
    refine ⟨D, _, rfl, SqL.of h2, _, rfl, o, C, dx, _, rfl, hoG, T.cl, T.nU, lu _ _ _ _, ?_⟩
    rw [fldH_put_used]
    have tG : TK H4 (upd G o (.ins C dx (fldH room (qs.map fun r => (r.2.size : Int)).sum d' next'))) := (tk_same h1).trans (tk_upd fun xs z => by rw [hoG] at z; cases z)
    refine q d' _ hd' (fun b u nb z => by rw [upd_ne nb]; exact h1 _ _ (s4 _ _ (k3 _ _ nb z))) ⟨⟨dx, by rw [upd_same, used_sum]⟩, ⟨kvs, by rw [upd_ne nod.symm]; exact h1 _ _ (s4 _ _ hd3), hkv4.keep tG⟩, hnq, hql, hqw⟩
end
end Toy

set_option Elab.async false
set_option linter.all false
set_option maxRecDepth 100000
set_option maxHeartbeats 4000000
/-! Part E: the law's own: drawing a cell, holding a heap against rows. -/
namespace Toy
open PySem L2
open PyProof.Rows (envOfC)
theorem Keep.refl (p : Addr) (H : Hp) : Keep p H H := fun _ _ _ e => e
theorem Keep.same {p : Addr} {H H' : Hp} (s : Same H H') : Keep p H H' := fun b o _ e => s b o e
theorem Keep.trans {p : Addr} {H1 H2 H3 : Hp} (h : Keep p H1 H2) (k : Keep p H2 H3) : Keep p H1 H3 := fun b o n e => k b o n (h b o n e)
theorem Keep.free {p : Addr} {H H' : Hp} (k : Keep p H H') {a : Addr} (n : a ≠ p) (h : H' a = none) : H a = none := by
  cases e : H a with
  | none => rfl
  | some u => rw [k a u n e] at h; cases h
theorem keep_upd {p D : Addr} {H H' : Hp} (h : H D = none) (k : Keep p H H') (o : HO) : Keep p H (upd H' D o) := fun b u n e => by
  rw [upd_ne (ne_of_none e h)]
  exact k b u n e
theorem DrawsAt.ne_list {H : Hp} {p r x : Addr} {ys : List V} (d : DrawsAt H p r) (h : H x = some (.lst ys)) : x ≠ p := fun e => by
  obtain ⟨_, _, h1, _⟩ := d
  rw [e, h1] at h
  cases h
theorem at_str {zs : List Str} {i : Int} (h0 : 0 ≤ i) (h1 : i < (zs.length : Int)) : ∃ z ∈ zs, atI (zs.map V.str) i = some (.str z) := by
  have hk : i.toNat < zs.length := by omega
  refine ⟨zs[i.toNat], List.getElem_mem _, ?_⟩
  have q : atI (zs.map V.str) ((i.toNat : Nat) : Int) = some (.str zs[i.toNat]) := atI_nat (by rw [List.getElem?_map, List.getElem?_eq_getElem hk] <;> rfl)
  rw [show ((i.toNat : Nat) : Int) = i by omega] at q
  exact q
def rowT (r : Int × Cel) : Td := .tup [.int r.1, r.2.T]
theorem row_at {H : Hp} {r : Int × Cel} {v : V} (h : (rowT r).At H v) : ∃ t u, v = .ref t ∧ H t = some (.tup [.int r.1, u]) ∧ r.2.T.At H u := by
  obtain ⟨a, xs, rfl, ha, x, ys, rfl, hx, y, zs, rfl, hy, hz⟩ := h
  cases hx; cases hz
  exact ⟨a, y, rfl, ha, hy⟩
theorem at_row {H : Hp} {r : Int × Cel} {t : Addr} {u : V} (h : H t = some (.tup [.int r.1, u])) (k : r.2.T.At H u) : (rowT r).At H (.ref t) := ⟨t, _, rfl, h, _, _, rfl, rfl, u, _, rfl, k, rfl⟩
theorem rows_get {H : Hp} {rs : Rws} {xs : List V} {i : Nat} {x : V} (h : Td.Ats H (rs.map rowT) xs) (hx : xs[i]? = some x) : ∃ r t u, rs[i]? = some r ∧ x = .ref t ∧ H t = some (.tup [.int r.1, u]) ∧ r.2.T.At H u := by
  obtain ⟨k, hk, hat⟩ := ats_get h hx
  rw [List.getElem?_map] at hk
  cases e : rs[i]? with
  | none => rw [e] at hk; cases hk
  | some r =>
    rw [e] at hk
    cases hk
    obtain ⟨t, u, h1, h2, h3⟩ := row_at hat
    exact ⟨r, t, u, rfl, h1, h2, h3⟩
theorem srt_uniq {l xs ys : List Int} (p1 : xs.Perm l) (u1 : xs.Pairwise (· ≤ ·)) (p2 : ys.Perm l) (u2 : ys.Pairwise (· ≤ ·)) : xs = ys :=
  List.Perm.eq_of_pairwise (fun a b _ _ h1 h2 => Int.le_antisymm h1 h2) u1 u2 (p1.trans p2.symm)
theorem ints_dp {K : PySem.W.Frag} {H : Hp} : ∀ ns : List Int, DpAll K H (ns.map V.int) (ns.map PyData.int)
  | [] => .nil
  | n :: ns => .cons (.int n) (ints_dp ns)
theorem ints_D : ∀ ns : List Int, Td.Ds (ns.map Td.int) = ns.map PyData.int
  | [] => rfl
  | n :: ns => by
    show PyData.int n :: Td.Ds (ns.map Td.int) = PyData.int n :: ns.map PyData.int
    rw [ints_D ns]
theorem ints_shaped (ns : List Int) : SeqAt.shaped (.list (ns.map PyData.int)) = true := by
  have h := Td.shapedL (l := ns.map Td.int) (lays_ints ns) (by rw [deps_ints]; decide)
  rw [ints_D] at h
  exact h
theorem nself (v : V) : (!decide (v = v)) = false := by simp
structure TxtC (mg : Str → Option Value) : Prop where
  ztuple : mg "tuple" = none
  zrange : mg "range" = none
structure TxtA (mg : Str → Option Value) : Prop where
  zsorted : mg "sorted" = none
  zsum : mg "sum" = none
section
variable {P : Program} {w : World} {K : PySem.W.Frag} {mg : Str → Option Value} {base : Heap} {C : Addr}
abbrev sLCell : Stmt := topS 7
theorem scLCell : FnScope ["w", "words", "turn", "k"] ["w"] (defScope sLCell) := ⟨rfl, rfl, rfl, by decide +kernel, rfl, by decide +kernel, by decide +kernel⟩
def spLCell : Sp := fun vs H Q _ => ∃ (p r : Addr), vs = [.ref p] ∧ DrawsAt H p r ∧ ∀ (v : V) (c : Cel) (H' : Hp), Keep p H H' → DrawsAt H' p r → c.T.At H' v → c.wlen ≤ 4 → Q v H'
theorem c_lcell {f : Addr} {fd : FuncData} (T : TxtC mg) (c_law_next : C8.Cal P w K mg base 2 "_law_next" spNext []) (F : Fun K "_law_cell" "_law_cell" sLCell f fd) (b : Binds K fd ["w"] []) (hm : mg "_law_cell" = some (.ref f)) : C8.Cal P w K mg base 3 "_law_cell" spLCell [] := by
  refine cal_of F hm b scLCell (fun vs H Q E h => ?_) (fun cdv A outer s H vs Q E hr h => ?_)
  · obtain ⟨p, r, rfl, _⟩ := h
    rfl
  obtain ⟨p, r, rfl, d0, q⟩ := h
  refine ⟨_, (pss_cons (ps_set (i := 1) scLCell.nd rfl (Or.inl rfl) (pe_callTy call_tuple_of rfl T.ztuple boot_tuple (pa_cons (pe_lc (own := [("k", 3)]) (g := gName 3) (tt := tYes) rfl scLCell.nd (pi_range1 rfl T.zrange (pa_cons (C8.pe_c c_law_next hr (by decide) rfl (pa_cons (pv 0) (pa_cons pe_int pa_nil))) pa_nil)) (blkOk_by (own := [("k", 3)]) (N := ["w", "words", "turn", "k"]) (sc := defScope sLCell) (by decide +kernel)) (fun _ _ _ _ _ => (pg_name (i := 3) scLCell.nd rfl (Or.inl rfl))) (fun _ _ _ _ _ => pts_nil) (fun _ _ _ _ _ => (pe_op op_sub (C8.pe_c c_law_next hr (by decide) rfl (pa_cons (pv 0) (pa_cons pe_int pa_nil))) pe_int))) pa_nil)))
    (pss_cons (ps_set (i := 2) scLCell.nd rfl (Or.inl rfl) (C8.pe_c c_law_next hr (by decide) rfl (pa_cons (pv 0) (pa_cons pe_int pa_nil))))
    (pss_cons (ps_if (pt_cmpR op_eq (pv 2) pe_int (nomark _))
      (pss_one (ps_ret (pe_tup (pa_cons pe_str pa_nil))))
      pss_nil)
    (pss_cons (ps_if (pt_cmpR op_eq (pv 2) pe_int (nomark _))
      (pss_one (ps_ret (pe_tup (pa_cons pe_str (pa_cons (pe_op op_add (pe_op op_mul pe_int (C8.pe_c c_law_next hr (by decide) rfl (pa_cons (pv 0) (pa_cons pe_int pa_nil)))) pe_int) pa_nil)))))
      pss_nil)
    (pss_cons (ps_if (pt_cmpR op_eq (pv 2) pe_int (nomark _))
      (pss_one (ps_ret (pe_tup (pa_cons pe_str (pa_cons (pe_tup (pa_cons pe_str (pa_cons (pe_tup (pa_cons pe_str (pa_cons (C8.pe_c c_law_next hr (by decide) rfl (pa_cons (pv 0) (pa_cons pe_int pa_nil))) pa_nil))) pa_nil))) (pa_cons (pv 1) (pa_cons (C8.pe_c c_law_next hr (by decide) rfl (pa_cons (pv 0) (pa_cons pe_int pa_nil))) pa_nil)))))))
      pss_nil)
    (pss_one (ps_ret (pe_tup (pa_cons (pe_ix ix_list (pe_lst (pa_cons pe_str (pa_cons pe_str pa_nil))) (pe_op op_sub (pv 2) pe_int) (fun _ _ => rfl)) (pa_cons (C8.pe_c c_law_next hr (by decide) rfl (pa_cons (pv 0) (pa_cons pe_int pa_nil))) (pa_cons (pv 1) pa_nil))))))))))), ?_⟩
  refine ⟨_, rfl, p, r, 5, rfl, by decide, d0, fun cnt H1 c0 c5 k1 d1 => ⟨cnt, rfl, by omega, by omega, fun D hD => ?_⟩⟩
  obtain ⟨nDp, nDr⟩ := d1.fresh hD
  refine lc_range (Pv := fun i G => ∃ ns : List Int, G D = some (.lst (ns.map V.int)) ∧ Keep p H1 G ∧ DrawsAt G p r ∧ ns.length = i) ⟨[], upd_same, Keep.same (same_new hD _), d1.same (same_new hD _), rfl⟩ ?_ ?_
  · rintro i G hi ⟨ns, h1, h2, h3, h4⟩
    have hi' : i < cnt.toNat := hi
    refine ⟨rfl, ?_⟩
    refine tYes_if ?_
    refine ⟨_, rfl, p, r, 90, rfl, by decide, h3, fun n G2 n0 n90 k2 d2 => ?_⟩
    refine ⟨_, _, rfl, rfl, _, k2 _ _ nDp h1, ?_, ns ++ [n - 9], ?_, keep_upd hD (h2.trans k2) _, d2.off nDp nDr _, ?_⟩
    · rw [List.length_map]; exact szl (by omega)
    · rw [upd_same, List.map_append]; rfl
    · rw [List.length_append, h4]; rfl
  rintro G ⟨ws, h1, h2, h3, h4⟩
  refine ⟨D, _, rfl, .inl ⟨SqL.of h1, fun wt hwt => ?_⟩⟩
  have s2 := same_new hwt (.tup (ws.map V.int))
  have e2 : upd G wt (.tup (ws.map V.int)) wt = some (.tup (ws.map V.int)) := upd_same
  have d2 := h3.same s2
  have k2 : Keep p H (upd G wt (.tup (ws.map V.int))) := k1.trans (h2.trans (Keep.same s2))
  generalize upd G wt (.tup (ws.map V.int)) = H2 at s2 e2 d2 k2 ⊢
  have hw4 : ws.length ≤ 4 := by omega
  refine ⟨_, rfl, p, r, 5, rfl, by decide, d2, fun turn H3 t0 t5 k3 d3 => ?_⟩
  have k03 := k2.trans k3
  have e3 := k3 _ _ (fun z => by obtain ⟨_, _, h, _⟩ := d2; rw [← z, e2] at h; cases h) e2
  refine ⟨_, rfl, rfl, _, rfl, ?_⟩
  refine ite2 (fun _ => ?_) (fun n0 => ?_)
  · refine ⟨by show 1 ≤ sizeLine; decide, fun t ht => ?_⟩
    exact q _ .hole _ (k03.trans (Keep.same (same_new ht _))) (d3.same (same_new ht _)) ⟨t, _, rfl, upd_same, _, _, rfl, rfl, rfl⟩ (by show 0 ≤ 4; omega)
  refine ⟨_, rfl, rfl, _, rfl, ?_⟩
  refine ite2 (fun _ => ?_) (fun n1 => ?_)
  · refine ⟨_, rfl, p, r, 40, rfl, by decide, d3, fun n H4 _ _ k4 d4 => ?_⟩
    refine ⟨_, _, rfl, rfl, .inl (by decide), _, _, rfl, rfl, by show 2 ≤ sizeLine; decide, fun t ht => ?_⟩
    exact q _ (.on (2 * n + 1)) _ (k03.trans (k4.trans (Keep.same (same_new ht _)))) (d4.same (same_new ht _)) ⟨t, _, rfl, upd_same, _, _, rfl, rfl, _, _, rfl, rfl, rfl⟩ (by show 0 ≤ 4; omega)
  have wts : ∀ {G' : Hp} {G'' : Hp}, DrawsAt G' p r → Keep p G' G'' → G' wt = some (.tup (ws.map V.int)) → G'' wt = some (.tup (ws.map V.int)) := fun dd kk e => kk _ _ (fun z => by obtain ⟨_, _, h, _⟩ := dd; rw [← z, e] at h; cases h) e
  refine ⟨_, rfl, rfl, _, rfl, ?_⟩
  refine ite2 (fun _ => ?_) (fun n2 => ?_)
  · refine ⟨_, rfl, p, r, 9, rfl, by decide, d3, fun n H4 _ _ k4 d4 => ?_⟩
    have e4 := wts d3 k4 e3
    refine ⟨by show 2 ≤ sizeLine; decide, fun t1 ht1 => ?_⟩
    have s5 := same_new ht1 (.tup [.str "number", .int n])
    have e5 : upd H4 t1 (.tup [.str "number", .int n]) t1 = some (.tup [.str "number", .int n]) := upd_same
    have d5 := d4.same s5
    replace e4 := s5 _ _ e4
    generalize upd H4 t1 (.tup [.str "number", .int n]) = H5 at s5 e5 d5 e4 ⊢
    refine ⟨by show 2 ≤ sizeLine; decide, fun t2 ht2 => ?_⟩
    have s6 := same_new ht2 (.tup [.str "give", .ref t1])
    have e6 : upd H5 t2 (.tup [.str "give", .ref t1]) t2 = some (.tup [.str "give", .ref t1]) := upd_same
    have d6 := d5.same s6
    replace e4 := s6 _ _ e4
    replace e5 := s6 _ _ e5
    generalize upd H5 t2 (.tup [.str "give", .ref t1]) = H6 at s6 e6 d6 e4 e5 ⊢
    refine ⟨_, rfl, _, rfl, p, r, 50, rfl, by decide, d6, fun m H7 _ _ k7 d7 => ?_⟩
    refine ⟨by show 4 ≤ sizeLine; decide, fun t ht => ?_⟩
    have s8 := same_new ht (.tup [.str "later", .ref t2, .ref wt, .int m])
    have t68 := (tk_keep k7 d6.notup).trans (tk_same s8)
    exact q _ (.lat n ws m) _ (k03.trans (k4.trans ((Keep.same (sameT s5 s6)).trans (k7.trans (Keep.same s8))))) (d7.same s8)
      ⟨t, _, rfl, upd_same, _, _, rfl, rfl, _, _, rfl, ⟨t2, _, rfl, t68 _ _ e6, _, _, rfl, rfl, _, _, rfl, ⟨t1, _, rfl, t68 _ _ e5, _, _, rfl, rfl, _, _, rfl, rfl, rfl⟩, rfl⟩, _, _, rfl, ⟨wt, _, rfl, t68 _ _ e4, ats_ints ws⟩, _, _, rfl, rfl, rfl⟩ hw4
  · refine ⟨by show 2 ≤ sizeLine; decide, fun lz hlz => ?_⟩
    have s4 := same_new hlz (.lst [.str "con", .str "part"])
    have e4 : upd H3 lz (.lst [.str "con", .str "part"]) lz = some (.lst ([("con" : Str), "part"].map V.str)) := upd_same
    have d4 := d3.same s4
    replace e3 := s4 _ _ e3
    generalize upd H3 lz (.lst [.str "con", .str "part"]) = H4 at s4 e4 d4 e3 ⊢
    have m0 : turn ≠ 0 := fun e => n0 (by rw [e]; decide)
    have m1 : turn ≠ 1 := fun e => n1 (by rw [e]; decide)
    have m2 : turn ≠ 2 := fun e => n2 (by rw [e]; decide)
    obtain ⟨z, hz, ez⟩ := at_str (zs := ["con", "part"]) (i := turn - 3) (by omega) (by show turn - 3 < 2; omega)
    refine ⟨_, rfl, _, _, rfl, rfl, lz, _, turn - 3, _, rfl, rfl, SqL.of e4, ez, ?_⟩
    refine ⟨_, rfl, p, r, 5, rfl, by decide, d4, fun n H5 _ _ k5 d5 => ?_⟩
    have e5 := wts d4 k5 e3
    refine ⟨_, rfl, by show 3 ≤ sizeLine; decide, fun t ht => ?_⟩
    have s6 := same_new ht (.tup [.str z, .int n, .ref wt])
    obtain ⟨b, hb⟩ : ∃ b, z = cpW b := by
      rcases List.mem_cons.mp hz with h | h
      · exact ⟨true, h⟩
      · exact ⟨false, List.mem_singleton.mp h⟩
    subst hb
    exact q _ (.cp b n ws) _ (k03.trans ((Keep.same s4).trans (k5.trans (Keep.same s6)))) (d5.same s6)
      ⟨t, _, rfl, upd_same, _, _, rfl, rfl, _, _, rfl, rfl, _, _, rfl, ⟨wt, _, rfl, s6 _ _ e5, ats_ints ws⟩, rfl⟩ hw4
abbrev sAgrees : Stmt := topS 9
theorem scAgrees : FnScope ["heap", "rows", "room", "addresses", "used", "address", "cell", "size", "row"] ["heap", "rows", "room"] (defScope sAgrees) := ⟨rfl, rfl, rfl, by decide +kernel, rfl, by decide +kernel, by decide +kernel⟩
def spAgrees (C : Addr) : Sp := fun vs H Q _ => ∃ (o d L : Addr) (room next : Int) (rs : Rws) (xs : List V), vs = [.ref o, .ref L, .int room] ∧ HpAt C H o d room next rs ∧ H L = some (.lst xs) ∧ Td.Ats H (rs.map rowT) xs ∧ ∀ H', Same H H' → Q (.bl true) H'
theorem c_agrees {f : Addr} {fd : FuncData} (T : TxtA mg) (TH : TxtH K mg C) (c_law_size : C8.Cal P w K mg base 1 "_law_size" spSize []) (caddresses : C8.Met P w K mg base 1 C "addresses" (spAddrs C) []) (ccell : C8.Met P w K mg base 1 C "cell" (spCell C) []) (cfits : C8.Met P w K mg base 1 C "fits" (spFits C) [])
    (F : Fun K "_law_agrees" "_law_agrees" sAgrees f fd) (b : Binds K fd ["heap", "rows", "room"] []) (hm : mg "_law_agrees" = some (.ref f)) : C8.Cal P w K mg base 3 "_law_agrees" (spAgrees C) [] := by
  refine cal_of F hm b scAgrees (fun vs H Q E h => ?_) (fun cdv A outer s H vs Q E hr h => ?_)
  · obtain ⟨o, d, L, room, next, rs, xs, rfl, _⟩ := h
    rfl
  obtain ⟨o, d, L, room, next, rs, xs, rfl, hH, hL, hxs, q⟩ := h
  have hu64 := hr.units
  refine ⟨_, (pss_cons (ps_set (i := 3) scAgrees.nd rfl (Or.inl rfl) (C8.pe_mt0 caddresses hr (by decide) (pv 0)))
    (pss_cons (ps_if (PW.pt (pw_or (pt_cmpR (op_neD hu64) (pv 3) (pe_callB cr_sortedI rfl T.zsorted PyProof.Rows.boot_sorted (pa_cons (pe_lc (own := [("row", 8)]) (g := gName 8) (tt := tYes) (te := (tOp (rIxT K) (tVar 8) (tC (.int 0)))) rfl scAgrees.nd (pi_list (pv 1)) (blkOk_by (own := [("row", 8)]) (N := ["heap", "rows", "room", "addresses", "used", "address", "cell", "size", "row"]) (sc := defScope sAgrees) (by decide +kernel)) (fun _ _ _ _ _ => (pg_name (i := 8) scAgrees.nd rfl (Or.inl rfl))) (fun _ _ _ _ _ => pts_nil) (fun _ _ _ _ _ => (pe_ix ix_tup (pv 8) pe_int (fun _ _ => rfl)))) pa_nil)) (nomark _)) (pw_or1 (pt_cmpR op_ne (pe_fld (pv 0) rfl) (pv 2) (nomark _)))))
      (pss_one (ps_ret pe_bl))
      pss_nil)
    (pss_cons (ps_expr (pe_bm PySem.F.plainAttrs_list PySem.F.slot_list_append PySem.F.type_list_append mt_append (pv 3) (pa_cons pe_int pa_nil)))
    (pss_cons (ps_set (i := 4) scAgrees.nd rfl (Or.inl rfl) (pe_callB (cr_sum rfl) rfl T.zsum boot_sum (pa_cons (pe_lc (own := [("row", 8)]) (g := gName 8) (tt := tYes) (te := (tCall spSize [] C8.E0 (tCons (tOp (rIxT K) (tVar 8) (tC (.int 1))) tNil))) rfl scAgrees.nd (pi_list (pv 1)) (blkOk_by (own := [("row", 8)]) (N := ["heap", "rows", "room", "addresses", "used", "address", "cell", "size", "row"]) (sc := defScope sAgrees) (by decide +kernel)) (fun _ _ _ _ _ => (pg_name (i := 8) scAgrees.nd rfl (Or.inl rfl))) (fun _ _ _ _ _ => pts_nil) (fun _ _ _ _ _ => (C8.pe_c c_law_size hr (by decide) rfl (pa_cons (pe_ix ix_tup (pv 8) pe_int (fun _ _ => rfl)) pa_nil)))) pa_nil)))
    (pss_cons (ps_if (PW.pt (pw_or (pt_cmpR op_ne (pe_fld (pv 0) rfl) (pv 4) (nomark _)) (pw_or1 (pt_cmpR (op_neD hu64) (C8.pe_mt0 caddresses hr (by decide) (pv 0)) (pe_callB cr_sortedI rfl T.zsorted PyProof.Rows.boot_sorted (pa_cons (pe_lc (own := [("row", 8)]) (g := gName 8) (tt := tYes) (te := (tOp (rIxT K) (tVar 8) (tC (.int 0)))) rfl scAgrees.nd (pi_list (pv 1)) (blkOk_by (own := [("row", 8)]) (N := ["heap", "rows", "room", "addresses", "used", "address", "cell", "size", "row"]) (sc := defScope sAgrees) (by decide +kernel)) (fun _ _ _ _ _ => (pg_name (i := 8) scAgrees.nd rfl (Or.inl rfl))) (fun _ _ _ _ _ => pts_nil) (fun _ _ _ _ _ => (pe_ix ix_tup (pv 8) pe_int (fun _ _ => rfl)))) pa_nil)) (nomark _)))))
      (pss_one (ps_ret pe_bl))
      pss_nil)
    (pss_cons (ps_for PassesOwn.never rfl (pi_list (pv 1)) (pg_tup rfl (pgs_cons (pg_name (i := 5) scAgrees.nd rfl (Or.inl rfl)) (pgs_cons (pg_name (i := 6) scAgrees.nd rfl (Or.inl rfl)) pgs_nil)))
      (pss_one (ps_if (pt_cmpR (op_neD hu64) (C8.pe_mt ccell hr (by decide) (pv 0) (pa_cons (pv 5) pa_nil)) (pv 6) (nomark _))
      (pss_one (ps_ret pe_bl))
      pss_nil)))
    (pss_cons (ps_for PassesOwn.never rfl (pi_list (pe_lst (pa_cons pe_int (pa_cons pe_int (pa_cons (pe_op op_sub (pv 2) (pv 4)) (pa_cons (pe_op op_add (pe_op op_sub (pv 2) (pv 4)) pe_int) pa_nil)))))) (pg_name (i := 7) scAgrees.nd rfl (Or.inl rfl))
      (pss_one (ps_if (pt_cmpR op_ne (C8.pe_mt cfits hr (by decide) (pv 0) (pa_cons (pv 7) pa_nil)) (pe_cmpR op_le (pe_op op_add (pv 4) (pv 7)) (pv 2) (nomark _)) (nomark _))
      (pss_one (ps_ret pe_bl))
      pss_nil)))
    (pss_one (ps_ret pe_bl))))))))), ?_⟩
  obtain ⟨dx, ho⟩ := hH.ob
  have hxl : xs.length = rs.length := by rw [ats_len hxs, List.length_map]
  have hrl := hH.len
  refine ⟨_, rfl, o, dx, _, rfl, ho, fldH_no _ _ _ _ mnames.2.2.2.1, o, d, room, next, rs, rfl, hH, fun p1 z1 H1 hp1 s1 e1 pm1 up1 => ?_⟩
  have hL1 := s1 _ _ hL
  refine ⟨_, rfl, _, rfl, L, rfl, ⟨_, SqL.of hL1⟩, fun D hD => ?_⟩
  refine lc_list (K := K) (a := L) (xs := xs) (fun i G => Same H1 G ∧ G D = some (.lst (((rs.take i).map (·.1)).map V.int))) ⟨same_new hD _, upd_same⟩ (fun i G hi ⟨h1, h2⟩ => SqL.of (h1 _ _ hL1)) ?_ ?_
  · rintro i x G hx ⟨h1, h2⟩
    obtain ⟨r, t, u, hr1, rfl, ht, hat⟩ := rows_get (hxs.keep (tk_same s1)) hx
    have hil : i < rs.length := (List.getElem?_eq_some_iff.mp hr1).1
    refine ⟨rfl, ?_⟩
    refine tYes_if ?_
    refine ⟨_, rfl, t, _, 0, _, rfl, rfl, SqT.of (h1 _ _ ht), at0 _ _, _, h2, ?_, same_upd hD h1 _, ?_⟩
    · rw [List.length_map, List.length_map, List.length_take]
      exact szl (by omega)
    · rw [upd_same, List.take_add_one, hr1, List.map_append, List.map_append]
      rfl
  rintro G2 ⟨s2, hD2⟩
  rw [hxl, List.take_length] at hD2
  refine ⟨D, _, rfl, SqL.of hD2, fun z2 p2 pm2 up2 hp2 => ?_⟩
  have s3 := same_new hp2 (.lst (z2.map V.int))
  have e3 : upd G2 p2 (.lst (z2.map V.int)) p2 = some (.lst (z2.map V.int)) := upd_same
  generalize upd G2 p2 (.lst (z2.map V.int)) = G3 at s3 e3 ⊢
  have s13 := sameT s2 s3
  cases srt_uniq pm2 up2 pm1 up1
  refine ⟨_, _, .lst (SqL.of (s13 _ _ e1)) (ints_dp _), .lst (SqL.of e3) (ints_dp _), ints_shaped _, ints_shaped _, _, rfl, ?_⟩
  rw [eqv_self (ints_shaped _)]
  refine iteF ?_
  have s03 := sameT s1 s13
  refine ⟨_, rfl, o, C, dx, _, .int room, rfl, s03 _ _ ho, TH.cl, TH.nR, fldH_room _ _ _ _, _, rfl, rfl, _, rfl, ?_⟩
  rw [nself]
  refine iteF ?_
  have e13 := s13 _ _ e1
  refine ⟨_, rfl, .inl ⟨rfl, _, SqL.of e13⟩, p1, _, _, rfl, rfl, e13, szl (by rw [List.length_map, pm1.length_eq, List.length_map]; omega), ?_⟩
  have s04 := same_upd hp1 s03 (.lst (z1.map V.int ++ [.int 7]))
  generalize upd G3 p1 (.lst (z1.map V.int ++ [.int 7])) = G4 at s04 ⊢
  clear e13 e3 s03 s13 s3 hp2 hD2 s2 hD hL1 e1 s1
  have hL4 := s04 _ _ hL
  have hx4 := hxs.keep (tk_same s04)
  refine ⟨_, rfl, L, rfl, ⟨_, SqL.of hL4⟩, fun D2 hD2 => ?_⟩
  refine lc_list (K := K) (a := L) (xs := xs) (fun i G => Same G4 G ∧ G D2 = some (.lst (((rs.take i).map fun r => (r.2.size : Int)).map V.int))) ⟨same_new hD2 _, upd_same⟩ (fun i G hi ⟨h1, h2⟩ => SqL.of (h1 _ _ hL4)) ?_ ?_
  · rintro i x G hx ⟨h1, h2⟩
    obtain ⟨r, t, u, hr1, rfl, ht, hat⟩ := rows_get hx4 hx
    have hil : i < rs.length := (List.getElem?_eq_some_iff.mp hr1).1
    refine ⟨rfl, ?_⟩
    refine tYes_if ?_
    refine ⟨_, rfl, t, _, 1, _, rfl, rfl, SqT.of (h1 _ _ ht), at1 _ _ _, u, r.2, rfl, hat.keep (tk_same h1), hH.wl r (List.mem_of_getElem? hr1), fun G5 s5 => ?_⟩
    refine ⟨_, s5 _ _ h2, ?_, same_upd hD2 (sameT h1 s5) _, ?_⟩
    · rw [List.length_map, List.length_map, List.length_take]
      exact szl (by omega)
    · rw [upd_same, List.take_add_one, hr1, List.map_append, List.map_append]
      rfl
  rintro G5 ⟨s5, hD5⟩
  rw [hxl, List.take_length] at hD5
  refine ⟨D2, _, rfl, SqL.of hD5, ?_⟩
  rw [used_sum]
  have s05 := sameT s04 s5
  refine ⟨_, rfl, o, C, dx, _, .int (usedOf rs), rfl, s05 _ _ ho, TH.cl, TH.nU, fldH_used _ _ _ _, _, rfl, rfl, _, rfl, ?_⟩
  rw [nself]
  refine iteF ?_
  refine ⟨_, rfl, o, dx, _, rfl, s05 _ _ ho, fldH_no _ _ _ _ mnames.2.2.2.1, o, d, room, next, rs, rfl, hH.same s05, fun p3 z3 H6 hp3 s6 e6 pm3 up3 => ?_⟩
  have s06 := sameT s05 s6
  have hL6 := s06 _ _ hL
  have hx6 := hxs.keep (tk_same s06)
  refine ⟨_, rfl, L, rfl, ⟨_, SqL.of hL6⟩, fun D hD => ?_⟩
  refine lc_list (K := K) (a := L) (xs := xs) (fun i G => Same H6 G ∧ G D = some (.lst (((rs.take i).map (·.1)).map V.int))) ⟨same_new hD _, upd_same⟩ (fun i G hi ⟨h1, h2⟩ => SqL.of (h1 _ _ hL6)) ?_ ?_
  · rintro i x G hx ⟨h1, h2⟩
    obtain ⟨r, t, u, hr1, rfl, ht, hat⟩ := rows_get hx6 hx
    have hil : i < rs.length := (List.getElem?_eq_some_iff.mp hr1).1
    refine ⟨rfl, ?_⟩
    refine tYes_if ?_
    refine ⟨_, rfl, t, _, 0, _, rfl, rfl, SqT.of (h1 _ _ ht), at0 _ _, _, h2, ?_, same_upd hD h1 _, ?_⟩
    · rw [List.length_map, List.length_map, List.length_take]
      exact szl (by omega)
    · rw [upd_same, List.take_add_one, hr1, List.map_append, List.map_append]
      rfl
  rintro G7 ⟨s7, hD7⟩
  rw [hxl, List.take_length] at hD7
  refine ⟨D, _, rfl, SqL.of hD7, fun z4 p4 pm4 up4 hp4 => ?_⟩
  have s8 := same_new hp4 (.lst (z4.map V.int))
  have e8 : upd G7 p4 (.lst (z4.map V.int)) p4 = some (.lst (z4.map V.int)) := upd_same
  generalize upd G7 p4 (.lst (z4.map V.int)) = G8 at s8 e8 ⊢
  have s68 := sameT s7 s8
  cases srt_uniq pm4 up4 pm3 up3
  refine ⟨_, _, .lst (SqL.of (s68 _ _ e6)) (ints_dp _), .lst (SqL.of e8) (ints_dp _), ints_shaped _, ints_shaped _, _, rfl, ?_⟩
  rw [eqv_self (ints_shaped _)]
  refine iteF ?_
  have s08 := sameT s06 s68
  clear e8 s68 s8 hp4 hD7 s7 hD hL6 hx6 e6 s6 hp3 s5 hD5 hD2 hL4 hx4 s04 s05 s06
  have hL8 := s08 _ _ hL
  have hx8 := hxs.keep (tk_same s08)
  have hH8 := hH.same s08
  refine ⟨_, rfl, L, rfl, ⟨_, SqL.of hL8⟩, for_list (K := K) (a := L) (xs := xs)
    (fun (i : Nat) σ G => ∃ v5 v6 : Option V, σ = [some (.ref o), some (.ref L), some (.int room), some (.ref p1), some (.int (usedOf rs)), v5, v6, none, none] ∧ G = G8)
    ⟨_, _, rfl, rfl⟩ (fun i σ G _ ⟨v5, v6, _, e⟩ => by rw [e]; exact SqL.of hL8) ?_ ?_⟩
  · rintro i x σ G hx ⟨v5, v6, rfl, rfl⟩
    obtain ⟨r, t, u, hr1, rfl, ht, hat⟩ := rows_get hx8 hx
    refine ⟨t, _, rfl, SqT.of ht, rfl, _, _, rfl, _, _, rfl, rfl, ?_⟩
    refine ⟨_, rfl, o, dx, _, rfl, s08 _ _ ho, fldH_no _ _ _ _ mnames.2.1, _, rfl, o, d, room, next, rs, r.1, r.2, rfl, hH8, List.mem_of_getElem? hr1, fun v hv => ?_⟩
    refine ⟨_, rfl, _, _, hv.dp, hat.dp, r.2.shaped, r.2.shaped, _, rfl, ?_⟩
    rw [eqv_self r.2.shaped]
    refine iteF ?_
    exact ⟨_, _, rfl, rfl⟩
  rintro σ G ⟨v5, v6, rfl, rfl⟩
  refine ⟨_, rfl, _, rfl, _, _, rfl, rfl, _, rfl, _, rfl, _, _, rfl, rfl, _, _, rfl, rfl, by show 4 ≤ sizeLine; decide, fun lz hlz => ?_⟩
  have s9 := same_new hlz (.lst [.int 0, .int 1, .int (room - usedOf rs), .int (room - usedOf rs + 1)])
  have e9 : upd G lz (.lst [.int 0, .int 1, .int (room - usedOf rs), .int (room - usedOf rs + 1)]) lz = some (.lst [.int 0, .int 1, .int (room - usedOf rs), .int (room - usedOf rs + 1)]) := upd_same
  refine ⟨lz, rfl, ⟨_, SqL.of e9⟩, ?_⟩
  have s09 := sameT s08 s9
  have hH9 := hH8.same s9
  generalize upd G lz (.lst [.int 0, .int 1, .int (room - usedOf rs), .int (room - usedOf rs + 1)]) = G9 at s9 e9 s09 hH9 ⊢
  refine for_list (K := K) (a := lz) (xs := [.int 0, .int 1, .int (room - usedOf rs), .int (room - usedOf rs + 1)])
    (fun (i : Nat) σ G => ∃ v7 : Option V, σ = [some (.ref o), some (.ref L), some (.int room), some (.ref p1), some (.int (usedOf rs)), v5, v6, v7, none] ∧ G = G9)
    ⟨_, rfl, rfl⟩ (fun i σ G _ ⟨v7, _, e⟩ => by rw [e]; exact SqL.of e9) ?_ ?_
  · rintro i x σ G' hx ⟨v7, rfl, rfl⟩
    obtain ⟨z, rfl⟩ : ∃ z, x = .int z := by
      have := List.mem_of_getElem? hx
      simp only [List.mem_cons, List.not_mem_nil, or_false] at this
      rcases this with h | h | h | h <;> exact ⟨_, h⟩
    refine ⟨_, rfl, o, dx, _, rfl, s09 _ _ ho, fldH_no _ _ _ _ mnames.2.2.2.2.1, _, rfl, o, d, room, next, z, rs, rfl, hH9, ?_⟩
    refine ⟨_, rfl, _, rfl, _, _, rfl, rfl, _, rfl, _, _, rfl, rfl, rfl, _, rfl, ?_⟩
    rw [nself]
    refine iteF ?_
    exact ⟨_, rfl, rfl⟩
  rintro σ G' ⟨v7, rfl, rfl⟩
  exact q _ s09
end
end Toy

set_option Elab.async false
set_option linter.all false
set_option maxRecDepth 100000
set_option maxHeartbeats 4000000
/-! Part F: a heap renewed by the law. -/
namespace Toy
open PySem L2
open PyProof.Rows (envOfC)
/-- all but p and o stays -/
theorem Keep2.trans {p o : Addr} {H1 H2 H3 : Hp} (h : Keep2 p o H1 H2) (k : Keep2 p o H2 H3) : Keep2 p o H1 H3 := fun b u n m e => k b u n m (h b u n m e)
theorem Keep2.of {p o : Addr} {H H' : Hp} (k : Keep p H H') : Keep2 p o H H' := fun b u n _ e => k b u n e
theorem Keep2.same {p o : Addr} {H H' : Hp} (s : Same H H') : Keep2 p o H H' := fun b u _ _ e => s b u e
theorem HpAt.keep {C : Addr} {H H' : Hp} {p o d : Addr} {room next : Int} {rs : Rws} (h : HpAt C H o d room next rs) (k : Keep p H H') (n1 : o ≠ p) (n2 : d ≠ p) (t : TK H H') : HpAt C H' o d room next rs := by
  obtain ⟨dx, e1⟩ := h.ob
  obtain ⟨kvs, e2, e3⟩ := h.kv
  exact { h with ob := ⟨dx, k _ _ n1 e1⟩, kv := ⟨kvs, k _ _ n2 e2, e3.keep t⟩ }
theorem HpAt.off {C : Addr} {H : Hp} {x o d : Addr} {room next : Int} {rs : Rws} {u : HO} (h : HpAt C H o d room next rs) (n1 : x ≠ o) (n2 : x ≠ d) (t : TK H (upd H x u)) : HpAt C (upd H x u) o d room next rs := by
  obtain ⟨dx, e1⟩ := h.ob
  obtain ⟨kvs, e2, e3⟩ := h.kv
  exact { h with ob := ⟨dx, by rw [upd_ne n1.symm]; exact e1⟩, kv := ⟨kvs, by rw [upd_ne n2.symm]; exact e2, e3.keep t⟩ }
/-- the same cells under new addresses -/
def ren (f : Int) : Rws → Rws
  | [] => []
  | q :: qs => (f, q.2) :: ren (f + 2) qs
theorem ren_len : ∀ (f : Int) (qs : Rws), (ren f qs).length = qs.length
  | _, [] => rfl
  | f, q :: qs => by
    show (ren (f + 2) qs).length + 1 = qs.length + 1
    rw [ren_len]
theorem ren_snoc : ∀ (f : Int) (qs : Rws) (q : Int × Cel), ren f (qs ++ [q]) = ren f qs ++ [(f + 2 * (qs.length : Int), q.2)]
  | f, [], q => by
    show [(f, q.2)] = [(f + 2 * (0 : Int), q.2)]
    rw [Int.mul_zero, Int.add_zero]
  | f, r :: qs, q => by
    show (f, r.2) :: ren (f + 2) (qs ++ [q]) = (f, r.2) :: (ren (f + 2) qs ++ [(f + 2 * ((qs.length + 1 : Nat) : Int), q.2)])
    rw [ren_snoc]
    congr 4
    omega
theorem ren_ge : ∀ (f : Int) (qs : Rws) (a : Int), a ∈ (ren f qs).map (·.1) → f ≤ a
  | _, [], _, h => by cases h
  | f, q :: qs, a, h => by
    rcases List.mem_cons.mp h with e | e
    · rw [e]; exact Int.le_refl _
    · have := ren_ge (f + 2) qs a e
      omega
theorem ren_lt : ∀ (f : Int) (qs : Rws) (a : Int), a ∈ (ren f qs).map (·.1) → a < f + 2 * (qs.length : Int)
  | _, [], _, h => by cases h
  | f, q :: qs, a, h => by
    show a < f + 2 * ((qs.length + 1 : Nat) : Int)
    rcases List.mem_cons.mp h with e | e
    · rw [e]; show f < _; omega
    · have := ren_lt (f + 2) qs a e
      omega
theorem ren_nd : ∀ (f : Int) (qs : Rws), ((ren f qs).map (·.1)).Nodup
  | _, [] => List.nodup_nil
  | f, q :: qs => by
    show (f :: (ren (f + 2) qs).map (·.1)).Nodup
    rw [List.nodup_cons]
    exact ⟨fun h => by have := ren_ge (f + 2) qs f h; omega, ren_nd (f + 2) qs⟩
theorem ren_wl : ∀ (f : Int) (qs : Rws), (∀ q ∈ qs, q.2.wlen ≤ 1000) → ∀ q ∈ ren f qs, q.2.wlen ≤ 1000
  | _, [], _, _, h => by cases h
  | f, q :: qs, w, x, h => by
    rcases List.mem_cons.mp h with e | e
    · rw [e]; exact w q (List.mem_cons_self ..)
    · exact ren_wl (f + 2) qs (fun y hy => w y (List.mem_cons_of_mem _ hy)) x e
structure TxtR (mg : Str → Option Value) : Prop where
  zlen : mg "len" = none
  zrange : mg "range" = none
section
variable {P : Program} {w : World} {K : PySem.W.Frag} {mg : Str → Option Value} {base : Heap} {C : Addr}
abbrev sRenewed : Stmt := topS 10
theorem scRenewed : FnScope ["w", "heap", "rows", "kept", "first", "cells", "new", "k", "above", "row"] ["w", "heap", "rows"] (defScope sRenewed) := ⟨rfl, rfl, rfl, by decide +kernel, rfl, by decide +kernel, by decide +kernel⟩
def spRenewed (C : Addr) : Sp := fun vs H Q _ => ∃ (p r o d L : Addr) (room next : Int) (rs : Rws) (xs : List V), vs = [.ref p, .ref o, .ref L] ∧ DrawsAt H p r ∧ d ≠ p ∧ L ≠ r ∧ HpAt C H o d room next rs ∧ H L = some (.lst xs) ∧ Td.Ats H (rs.map rowT) xs ∧ 
  ∀ (t L' d' : Addr) (H' : Hp) (ys : List V) (qs : Rws) (above : Int), Keep2 p o H H' → DrawsAt H' p r → H' t = some (.tup [.ref L', .int above]) → H L' = none → H d' = none → L' ≠ p → H' L' = some (.lst ys) → Td.Ats H' (qs.map rowT) ys → HpAt C H' o d' room above qs → (∀ q ∈ qs, q.1 < above) → qs.length ≤ rs.length → Q (.ref t) H'
theorem c_renewed {f : Addr} {fd : FuncData} (T : TxtR mg) (TH : TxtH K mg C) (c_law_next : C8.Cal P w K mg base 2 "_law_next" spNext []) (crenew : C8.Met P w K mg base 2 C "renew" (spRenew C) [])
    (F : Fun K "_law_renewed" "_law_renewed" sRenewed f fd) (b : Binds K fd ["w", "heap", "rows"] []) (hm : mg "_law_renewed" = some (.ref f)) : C8.Cal P w K mg base 3 "_law_renewed" (spRenewed C) [] := by
  refine cal_of F hm b scRenewed (fun vs H Q E h => ?_) (fun cdv A outer s H vs Q E hr h => ?_)
  · obtain ⟨p, r, o, d, L, room, next, rs, xs, rfl, _⟩ := h
    rfl
  obtain ⟨p, r, o, d, L, room, next, rs, xs, rfl, d0, ndp, nLr, hH, hL, hxs, q⟩ := h
  have hu := hu_of hr
  refine ⟨_, (pss_cons (ps_setLc (i := 3) (own := [("row", 9)]) (g := gName 9) (tt := (tTest (tOp rEq (tCall spNext [] C8.E0 (tCons (tVar 0) (tCons (tC (.int 2)) tNil))) (tC (.int 0))))) rfl scRenewed.nd rfl rfl (sw_true rfl rfl rfl (by decide +kernel)) (pi_list (pv 2)) (blkOk_by (own := [("row", 9)]) (N := ["w", "heap", "rows", "kept", "first", "cells", "new", "k", "above", "row"]) (sc := defScope sRenewed) (by decide +kernel)) (fun _ _ _ _ _ => (pg_name (i := 9) scRenewed.nd rfl (Or.inl rfl))) (fun _ _ _ _ _ => pts_one (pt_cmpR op_eq (C8.pe_c c_law_next hr (by decide) rfl (pa_cons (pv 0) (pa_cons pe_int pa_nil))) pe_int (nomark _))) (fun _ _ _ _ _ => (pv 9)))
    (pss_cons (ps_set (i := 4) scRenewed.nd rfl (Or.inl rfl) (C8.pe_c c_law_next hr (by decide) rfl (pa_cons (pv 0) (pa_cons pe_int pa_nil))))
    (pss_cons (ps_set (i := 5) scRenewed.nd rfl (Or.inl rfl) pe_dnewK)
    (pss_cons (ps_set (i := 6) scRenewed.nd rfl (Or.inl rfl) (pe_lst pa_nil))
    (pss_cons (ps_for PassesOwn.never rfl (pi_range1 rfl T.zrange (pa_cons (pe_callB call_len_seq rfl T.zlen PySem.boot_len (pa_cons (pv 3) pa_nil)) pa_nil)) (pg_name (i := 7) scRenewed.nd rfl (Or.inl rfl))
      (pss_cons (ps_dput hu (pv 5) (pe_op op_add (pv 4) (pe_op op_mul pe_int (pv 7))) (pe_ix ix_tup (pe_ix ix_list (pv 3) (pv 7) (fun _ _ => rfl)) pe_int (fun _ _ => rfl)) rfl)
    (pss_one (ps_expr (pe_bm PySem.F.plainAttrs_list PySem.F.slot_list_append PySem.F.type_list_append mt_append (pv 6) (pa_cons (pe_tup (pa_cons (pe_op op_add (pv 4) (pe_op op_mul pe_int (pv 7))) (pa_cons (pe_ix ix_tup (pe_ix ix_list (pv 3) (pv 7) (fun _ _ => rfl)) pe_int (fun _ _ => rfl)) pa_nil))) pa_nil))))))
    (pss_cons (ps_set (i := 8) scRenewed.nd rfl (Or.inl rfl) (pe_op op_add (pe_op op_add (pv 4) (pe_op op_mul pe_int (pe_callB call_len_seq rfl T.zlen PySem.boot_len (pa_cons (pv 3) pa_nil)))) (C8.pe_c c_law_next hr (by decide) rfl (pa_cons (pv 0) (pa_cons pe_int pa_nil)))))
    (pss_cons (ps_expr (C8.pe_mt crenew hr (by decide) (pv 1) (pa_cons (pv 5) (pa_cons (pv 8) pa_nil))))
    (pss_cons (ps_dput hu (pv 5) pe_int (pe_tup (pa_cons pe_str pa_nil)) rfl)
    (pss_one (ps_ret (pe_tup (pa_cons (pv 6) (pa_cons (pv 8) pa_nil))))))))))))), ?_⟩
  have nLp := d0.ne_list hL
  have hxl : xs.length = rs.length := by rw [ats_len hxs, List.length_map]
  have hrl := hH.len
  have hrn := hH.nd
  refine ⟨_, rfl, L, rfl, ⟨_, SqL.of hL⟩, fun D hD => ?_⟩
  obtain ⟨nDp, nDr⟩ := d0.fresh hD
  have sD := same_new hD (.lst [])
  refine lc_list (K := K) (a := L) (xs := xs) (fun i G => ∃ (qs : Rws) (ys : List V), Keep p H G ∧ DrawsAt G p r ∧ G D = some (.lst ys) ∧ Td.Ats G (qs.map rowT) ys ∧ qs.Sublist (rs.take i)) ⟨[], [], Keep.same sD, d0.same sD, upd_same, rfl, List.nil_sublist _⟩ (fun i G hi ⟨qs, ys, h1, _⟩ => SqL.of (h1 _ _ nLp hL)) ?_ ?_
  · rintro i x G hx ⟨qs, ys, h1, h2, h3, h4, h5⟩
    obtain ⟨r1, t, u, hr1, rfl, ht, hat⟩ := rows_get (hxs.keep (tk_keep h1 d0.notup)) hx
    refine ⟨rfl, ?_⟩
    refine ⟨_, rfl, p, r, 2, rfl, by decide, h2, fun m G3 m0 m2 k3 d3 => ⟨rfl, _, rfl, ?_⟩⟩
    have hD3 := k3 _ _ nDp h3
    have t3 := tk_keep k3 h2.notup
    refine ite2 (fun _ => ?_) (fun _ => ?_)
    · have hq := h5.length_le
      rw [List.length_take] at hq
      have hyl : ys.length = qs.length := by rw [ats_len h4, List.length_map]
      have t4 : TK G3 (upd G3 D (.lst (ys ++ [.ref t]))) := tk_list hD3
      refine ⟨_, rfl, ys, hD3, szl (by omega), qs ++ [r1], ys ++ [.ref t], keep_upd hD (h1.trans k3) _, d3.off nDp nDr _, upd_same, ?_, ?_⟩
      · rw [List.map_append]
        exact ats_app ((h4.keep t3).keep t4) (ats_one (at_row (t4 _ _ (t3 _ _ ht)) ((hat.keep t3).keep t4)))
      · rw [List.take_add_one, hr1]
        exact List.Sublist.append h5 (List.Sublist.refl _)
    · refine ⟨qs, ys, h1.trans k3, d3, hD3, h4.keep t3, h5.trans ?_⟩
      rw [List.take_add_one]
      exact List.sublist_append_left _ _
  rintro G2 ⟨qs, ys, h1, h2, h3, h4, h5⟩
  rw [hxl, List.take_length] at h5
  have hql := h5.length_le
  have hyl : ys.length = qs.length := by rw [ats_len h4, List.length_map]
  have nop : o ≠ p := fun e => by
    obtain ⟨dx, ho⟩ := hH.ob
    obtain ⟨_, _, h, _⟩ := d0
    rw [e, h] at ho
    cases ho
  have hH2 := hH.keep h1 nop ndp (tk_keep h1 d0.notup)
  refine ⟨_, rfl, p, r, 9, rfl, by decide, h2, fun first G3 f0 f9 k3 d3 => ?_⟩
  have hH3 := hH2.keep k3 nop ndp (tk_keep k3 h2.notup)
  have hD3 := k3 _ _ nDp h3
  have hys3 := h4.keep (tk_keep k3 h2.notup)
  have k03 := h1.trans k3
  intro e he
  obtain ⟨nep, ner⟩ := d3.fresh he
  have heH : H e = none := k03.free nep he
  have s4 := same_new he (.dK [])
  have e4 : upd G3 e (.dK []) e = some (.dK []) := upd_same
  have k04 := k03.trans (Keep.same s4)
  have d4 := d3.same s4
  have hH4 := hH3.same s4
  have hD4 := s4 _ _ hD3
  have hys4 := hys3.keep (tk_same s4)
  generalize upd G3 e (.dK []) = G4 at s4 e4 k04 d4 hH4 hD4 hys4 ⊢
  refine ⟨by show 0 ≤ sizeLine; decide, fun N hN => ?_⟩
  obtain ⟨nNp, nNr⟩ := d4.fresh hN
  have hNH : H N = none := k04.free nNp hN
  have nND : N ≠ D := fun z => by rw [z, hD4] at hN; cases hN
  have neN : e ≠ N := ne_of_none e4 hN
  have s5 := same_new hN (.lst [])
  have e5 : upd G4 N (.lst []) N = some (.lst []) := upd_same
  have k05 := k04.trans (Keep.same s5)
  have d5 := d4.same s5
  have hH5 := hH4.same s5
  have hD5 := s5 _ _ hD4
  have hys5 := hys4.keep (tk_same s5)
  replace e4 := s5 _ _ e4
  generalize upd G4 N (.lst []) = G5 at s5 e5 k05 d5 hH5 hD5 hys5 e4 ⊢
  have neD : e ≠ D := fun z => by rw [z, hD5] at e4; cases e4
  have neo : e ≠ o := fun z => by obtain ⟨_, h⟩ := hH5.ob; rw [z, h] at e4; cases e4
  have nNo : N ≠ o := fun z => by obtain ⟨_, h⟩ := hH5.ob; rw [z, h] at e5; cases e5
  have ned : e ≠ d := fun z => by obtain ⟨_, h, _⟩ := hH.kv; rw [z, h] at heH; cases heH
  have nNd : N ≠ d := fun z => by obtain ⟨_, h, _⟩ := hH5.kv; rw [z, h] at e5; cases e5
  refine ⟨_, rfl, D, _, rfl, .inl (SqL.of hD5), _, rfl, by omega, by omega, for_range
    (fun (i : Nat) σ G => ∃ (v7 : Option V) (kvs : List (Key × V)) (zs : List V), σ = [some (.ref p), some (.ref o), some (.ref L), some (.ref D), some (.int first), some (.ref e), some (.ref N), v7, none, none] ∧ Keep p H G ∧ DrawsAt G p r ∧ HpAt C G o d room next rs ∧ G D = some (.lst ys) ∧ Td.Ats G (qs.map rowT) ys ∧
      G e = some (.dK kvs) ∧ KvAt G (ren first (qs.take i)) kvs ∧ G N = some (.lst zs) ∧ Td.Ats G ((ren first (qs.take i)).map rowT) zs)
    ⟨_, [], [], rfl, k05, d5, hH5, hD5, hys5, e4, rfl, e5, rfl⟩ ?_ ?_⟩
  · rintro i σ G hi ⟨v7, kvs, zs, rfl, kG, dG, hHG, hDG, hysG, heG, hkG, hNG, hzG⟩
    have hi' : i < ys.length := by omega
    have hgi := List.getElem?_eq_getElem hi'
    generalize ys[i] = x at hgi
    obtain ⟨r1, t, u, hr1, rfl, ht, hat⟩ := rows_get hysG hgi
    have hgi' : atI ys (0 + (i : Int)) = some (.ref t) := by rw [Int.zero_add]; exact atI_nat hgi
    have hkey : first + 2 * (0 + (i : Int)) ∉ (ren first (qs.take i)).map (·.1) := fun hm => by
      have := ren_lt first (qs.take i) _ hm
      rw [List.length_take] at this
      omega
    have hkl : kvs.length ≤ 64 := by
      rw [hkG.len, ren_len, List.length_take]
      omega
    have hzl : zs.length ≤ 64 := by
      rw [ats_len hzG, List.length_map, ren_len, List.length_take]
      omega
    refine ⟨_, rfl, _, rfl, D, _, _, _, rfl, rfl, SqL.of hDG, hgi', t, _, 1, _, rfl, rfl, SqT.of ht, at1 _ _ _, ?_⟩
    refine ⟨_, rfl, _, rfl, _, rfl, _, _, rfl, rfl, .inl (by decide), _, _, rfl, rfl, e, _, rfl, DPut.k (k := Sum.inl (first + 2 * (0 + (i : Int)))) heG (Nat.lt_of_le_of_lt hkl (by decide)), ?_⟩
    rw [putK_new _ (hkG.out hkey)]
    have t6 : TK G (upd G e (.dK (kvs ++ [(Sum.inl (first + 2 * (0 + (i : Int))), u)]))) := tk_dict heG
    have e6 : upd G e (.dK (kvs ++ [(Sum.inl (first + 2 * (0 + (i : Int))), u)])) e = some (.dK (kvs ++ [(Sum.inl (first + 2 * (0 + (i : Int))), u)])) := upd_same
    have k6 : Keep p H (upd G e (.dK (kvs ++ [(Sum.inl (first + 2 * (0 + (i : Int))), u)]))) := keep_upd heH kG _
    have d6 := dG.off nep ner (.dK (kvs ++ [(Sum.inl (first + 2 * (0 + (i : Int))), u)]))
    have hH6 := hHG.off neo ned t6
    have hD6 : upd G e (.dK (kvs ++ [(Sum.inl (first + 2 * (0 + (i : Int))), u)])) D = some (.lst ys) := by rw [upd_ne neD.symm]; exact hDG
    have hN6 : upd G e (.dK (kvs ++ [(Sum.inl (first + 2 * (0 + (i : Int))), u)])) N = some (.lst zs) := by rw [upd_ne neN.symm]; exact hNG
    have hk6 : KvAt (upd G e (.dK (kvs ++ [(Sum.inl (first + 2 * (0 + (i : Int))), u)]))) (ren first (qs.take (i + 1))) (kvs ++ [(Sum.inl (first + 2 * (0 + (i : Int))), u)]) := by
      rw [List.take_add_one, hr1]
      show KvAt _ (ren first (qs.take i ++ [r1])) _
      rw [ren_snoc, List.length_take]
      refine (hkG.keep t6).app ⟨u, [], ?_, hat.keep t6, rfl⟩
      rw [show (min i qs.length : Nat) = i by omega]
      simp
    have hys6 := hysG.keep t6
    have hz6 := hzG.keep t6
    have ht6 := t6 _ _ ht
    have hat6 := hat.keep t6
    generalize upd G e (.dK (kvs ++ [(Sum.inl (first + 2 * (0 + (i : Int))), u)])) = G6 at t6 e6 k6 d6 hH6 hD6 hN6 hk6 hys6 hz6 ht6 hat6 ⊢
    refine ⟨_, rfl, .inl ⟨rfl, _, SqL.of hN6⟩, _, rfl, _, rfl, _, _, rfl, rfl, .inl (by decide), _, _, rfl, rfl, _, rfl, _, rfl, D, _, _, _, rfl, rfl, SqL.of hD6, hgi', t, _, 1, _, rfl, rfl, SqT.of ht6, at1 _ _ _, by show 2 ≤ sizeLine; decide, fun t1 ht1 => ?_⟩
    have s7 := same_new ht1 (.tup [.int (first + 2 * (0 + (i : Int))), u])
    have e7 : upd G6 t1 (.tup [.int (first + 2 * (0 + (i : Int))), u]) t1 = some (.tup [.int (first + 2 * (0 + (i : Int))), u]) := upd_same
    have hN7 := s7 _ _ hN6
    refine ⟨N, zs, _, rfl, rfl, hN7, Nat.lt_of_le_of_lt hzl (by decide), ?_⟩
    have t8 : TK (upd G6 t1 (.tup [.int (first + 2 * (0 + (i : Int))), u])) (upd (upd G6 t1 (.tup [.int (first + 2 * (0 + (i : Int))), u])) N (.lst (zs ++ [.ref t1]))) := tk_list hN7
    have t68 := (tk_same s7).trans t8
    refine ⟨_, _, zs ++ [.ref t1], rfl, keep_upd hNH (k6.trans (Keep.same s7)) _, (d6.same s7).off nNp nNr _, (hH6.same s7).off nNo nNd t8, by rw [upd_ne nND.symm]; exact s7 _ _ hD6, hys6.keep t68, by rw [upd_ne neN]; exact s7 _ _ e6, hk6.keep t68, upd_same, ?_⟩
    rw [List.take_add_one, hr1]
    show Td.Ats _ ((ren first (qs.take i ++ [r1])).map rowT) _
    rw [ren_snoc, List.length_take, List.map_append]
    refine ats_app (hz6.keep t68) (ats_one (at_row (r := (first + 2 * ((min i qs.length : Nat) : Int), r1.2)) (u := u) (t8 _ _ ?_) (hat6.keep t68)))
    rw [show (min i qs.length : Nat) = i by omega, e7, Int.zero_add]
  rintro σ G ⟨v7, kvs, zs, rfl, kG, dG, hHG, hDG, hysG, heG, hkG, hNG, hzG⟩
  rw [show ((List.length ys : Int)).toNat = qs.length by omega, List.take_length] at hkG hzG
  refine ⟨_, rfl, _, rfl, D, _, rfl, .inl (SqL.of hDG), _, _, rfl, rfl, .inl (by decide), _, _, rfl, rfl, ?_⟩
  refine ⟨_, rfl, p, r, 3, rfl, by decide, dG, fun m G6 m0 m3 k6 d6 => ⟨_, _, rfl, rfl, ?_⟩⟩
  have t6 := tk_keep k6 dG.notup
  have hH6 := hHG.keep k6 nop ndp t6
  have he6 := k6 _ _ nep heG
  have hk6 := hkG.keep t6
  have hN6 := k6 _ _ nNp hNG
  have hz6 := hzG.keep t6
  have k06 := kG.trans k6
  obtain ⟨dx, ho6⟩ := hH6.ob
  obtain ⟨above, hab⟩ : ∃ z : Int, z = first + 2 * (ys.length : Int) + m := ⟨_, rfl⟩
  refine ⟨_, rfl, o, dx, _, rfl, ho6, fldH_no _ _ _ _ mnames.2.2.2.2.2, _, rfl, .int above, (by rw [hab]; rfl), o, d, e, room, next, above, rs, ren first qs, kvs, rfl, hH6, he6, hk6, ren_nd _ _, by rw [ren_len]; omega,
    ren_wl _ _ (fun z hz => hH.wl z (h5.subset hz)), fun d' G7 hd' k7 hH7 => ?_⟩
  have nop' : p ≠ o := nop.symm
  have nro : r ≠ o := fun z => by obtain ⟨_, _, _, h⟩ := d6; rw [z, ho6] at h; cases h
  have d7 : DrawsAt G7 p r := by
    obtain ⟨row, j, g1, g2⟩ := d6
    exact ⟨row, j, k7 _ _ nop' g1, k7 _ _ nro g2⟩
  have he7 := k7 _ _ neo he6
  have hN7 := k7 _ _ nNo hN6
  have t7 : TK G6 G7 := fun a ws z => k7 _ _ (fun y => by rw [y, ho6] at z; cases z) z
  have hz7 := hz6.keep t7
  have ned' : e ≠ d' := fun z => by rw [← z, he6] at hd'; cases hd'
  have nNd' : N ≠ d' := fun z => by rw [← z, hN6] at hd'; cases hd'
  have hd'H : H d' = none := by
    by_cases z : d' = p
    · exfalso
      obtain ⟨_, _, h, _⟩ := d6
      rw [z, h] at hd'
      cases hd'
    · exact k06.free z hd'
  refine ⟨by show 1 ≤ sizeLine; decide, fun t1 ht1 => ?_⟩
  have s8 := same_new ht1 (.tup [.str "hole"])
  have d8 := d7.same s8
  have hH8 := hH7.same s8
  have he8 := s8 _ _ he7
  have hN8 := s8 _ _ hN7
  have hz8 := hz7.keep (tk_same s8)
  have k78 : ∀ b u, b ≠ o → G6 b = some u → upd G7 t1 (.tup [.str "hole"]) b = some u := fun b u n z => s8 _ _ (k7 _ _ n z)
  generalize upd G7 t1 (.tup [.str "hole"]) = G8 at s8 d8 hH8 he8 hN8 hz8 k78 ⊢
  have hkl : kvs.length ≤ 64 := by
    rw [hkG.len, ren_len]
    omega
  refine ⟨_, rfl, e, _, rfl, DPut.k (k := Sum.inl 99) he8 (Nat.lt_of_le_of_lt hkl (by decide)), ?_⟩
  have t9 : TK G8 (upd G8 e (.dK (putK kvs (Sum.inl 99) (.ref t1)))) := tk_dict he8
  have d9 := d8.off nep ner (.dK (putK kvs (Sum.inl 99) (.ref t1)))
  have hH9 := hH8.off neo ned' t9
  have hN9 : upd G8 e (.dK (putK kvs (Sum.inl 99) (.ref t1))) N = some (.lst zs) := by rw [upd_ne neN.symm]; exact hN8
  have hz9 := hz8.keep t9
  have k9 : Keep2 p o H (upd G8 e (.dK (putK kvs (Sum.inl 99) (.ref t1)))) := fun b u n1 n2 z => by
    rw [upd_ne (ne_of_none z heH)]
    exact k78 _ _ n2 (k06 _ _ n1 z)
  generalize upd G8 e (.dK (putK kvs (Sum.inl 99) (.ref t1))) = G9 at t9 d9 hH9 hN9 hz9 k9 ⊢
  refine ⟨_, rfl, .int above, (by rw [hab]; rfl), by show 2 ≤ sizeLine; decide, fun t2 ht2 => ?_⟩
  have s10 := same_new ht2 (.tup [.ref N, .int above])
  refine q t2 N d' _ zs (ren first qs) above (k9.trans (Keep2.same s10)) (d9.same s10) upd_same hNH hd'H nNp (s10 _ _ hN9) (hz9.keep (tk_same s10)) (hH9.same s10) (fun z hz => ?_) (by rw [ren_len]; exact hql)
  have := ren_lt first qs z.1 (List.mem_map.mpr ⟨z, hz, rfl⟩)
  rw [hab]
  omega
end
end Toy

set_option Elab.async false
set_option linter.all false
set_option maxRecDepth 100000
set_option maxHeartbeats 4000000
/-! Part G: the law. -/
namespace Toy
open PySem L2
open PyProof.Rows (envOfC)
theorem SqL.keep {K : PySem.W.Frag} {H H' : Hp} {a p r : Addr} {xs : List V} (h : SqL K H a xs) (k : Keep p H H') (d : DrawsAt H p r) : SqL K H' a xs := by
  obtain ⟨_, _, e, _⟩ := d
  rcases h with (h | ⟨o, h⟩) | h
  · exact .inl (.inl (k _ _ (fun z => by rw [z, e] at h; cases h) h))
  · exact .inl (.inr ⟨o, k _ _ (fun z => by rw [z, e] at h; cases h) h⟩)
  · exact .inr h
theorem eqv_nil (l : List PyData) : PyData.eqv (.list l) (.list []) = l.isEmpty := by
  cases l with
  | nil => rw [PyData.eqv, PyData.eqvAll]; rfl
  | cons d l => rw [PyData.eqv, PyData.eqvAll]; rfl
theorem rows_shaped : ∀ rs : Rws, Td.lays (rs.map rowT) = true ∧ Td.deps (rs.map rowT) ≤ 4
  | [] => ⟨rfl, Nat.zero_le _⟩
  | r :: rs => by
    obtain ⟨h1, h2⟩ := rows_shaped rs
    have h3 := r.2.lay
    have h4 := r.2.dep
    refine ⟨?_, ?_⟩
    · show ((true && (r.2.T.lay && true)) && Td.lays (rs.map rowT)) = true
      rw [h1, h3]
      rfl
    · show max (1 + max 0 (max r.2.T.dep 0)) (Td.deps (rs.map rowT)) ≤ 4
      omega
structure TxtL (mg : Str → Option Value) : Prop where
  zlen : mg "len" = none
  zmin : mg "min" = none
  zrange : mg "range" = none
/-- how the law's things stand -/
structure LawAt (C : Addr) (G : Hp) (p r o d o2 d2 L : Addr) (room above : Int) (rs : Rws) (n : Nat) : Prop where
  dr : DrawsAt G p r
  hp : HpAt C G o d room above rs
  ot : HpAt C G o2 d2 5 0 []
  rw' : ∃ xs, G L = some (.lst xs) ∧ Td.Ats G (rs.map rowT) xs
  noo : o ≠ o2
  ndd : d ≠ d2
  ndp : d ≠ p
  nd2p : d2 ≠ p
  nLr : L ≠ r
  lt : ∀ q ∈ rs, q.1 < above
  len : rs.length ≤ n
theorem HpAt.ne_o {C : Addr} {G : Hp} {p r o d : Addr} {room next : Int} {rs : Rws} (h : HpAt C G o d room next rs) (k : DrawsAt G p r) : o ≠ p ∧ o ≠ r ∧ d ≠ r := by
  obtain ⟨dx, e1⟩ := h.ob
  obtain ⟨kvs, e2, _⟩ := h.kv
  obtain ⟨_, _, e3, e4⟩ := k
  exact ⟨fun z => (by rw [z, e3] at e1; cases e1), fun z => (by rw [z, e4] at e1; cases e1), fun z => (by rw [z, e4] at e2; cases e2)⟩
theorem HpAt.ne_l {C : Addr} {G : Hp} {L o d : Addr} {room next : Int} {rs : Rws} {xs : List V} (h : HpAt C G o d room next rs) (k : G L = some (.lst xs)) : L ≠ o ∧ L ≠ d := by
  obtain ⟨dx, e1⟩ := h.ob
  obtain ⟨kvs, e2, _⟩ := h.kv
  exact ⟨fun z => (by rw [z, e1] at k; cases k), fun z => (by rw [z, e2] at k; cases k)⟩
theorem HpAt.ne_od {C : Addr} {G : Hp} {o d o2 d2 : Addr} {room next room2 next2 : Int} {rs rs2 : Rws} (h : HpAt C G o d room next rs) (k : HpAt C G o2 d2 room2 next2 rs2) : o ≠ d2 ∧ d ≠ o2 := by
  obtain ⟨dx, e1⟩ := h.ob
  obtain ⟨kvs, e2, _⟩ := h.kv
  obtain ⟨dx2, e3⟩ := k.ob
  obtain ⟨kvs2, e4, _⟩ := k.kv
  exact ⟨fun z => (by rw [z, e4] at e1; cases e1), fun z => (by rw [z, e3] at e2; cases e2)⟩
theorem LawAt.keep {C : Addr} {G G' : Hp} {p r o d o2 d2 L : Addr} {room above : Int} {rs : Rws} {n : Nat} (h : LawAt C G p r o d o2 d2 L room above rs n) (k : Keep p G G') (d' : DrawsAt G' p r) : LawAt C G' p r o d o2 d2 L room above rs n := by
  have t := tk_keep k h.dr.notup
  obtain ⟨xs, h1, h2⟩ := h.rw'
  exact { h with dr := d', hp := h.hp.keep k (h.hp.ne_o h.dr).1 h.ndp t, ot := h.ot.keep k (h.ot.ne_o h.dr).1 h.nd2p t, rw' := ⟨xs, k _ _ (h.dr.ne_list h1) h1, h2.keep t⟩ }
theorem LawAt.same {C : Addr} {G G' : Hp} {p r o d o2 d2 L : Addr} {room above : Int} {rs : Rws} {n : Nat} (h : LawAt C G p r o d o2 d2 L room above rs n) (s : Same G G') : LawAt C G' p r o d o2 d2 L room above rs n := h.keep (Keep.same s) (h.dr.same s)
/-- what is left when the heap alone has been changed -/
theorem LawAt.heap {C : Addr} {G G' : Hp} {p r o d o2 d2 L : Addr} {room above above' : Int} {rs rs' : Rws} {n : Nat} (h : LawAt C G p r o d o2 d2 L room above rs n) (k : Keep2 o d G G') (hp' : HpAt C G' o d room above' rs') :
    DrawsAt G' p r ∧ HpAt C G' o2 d2 5 0 [] ∧ (∃ xs, G' L = some (.lst xs) ∧ Td.Ats G' (rs.map rowT) xs) ∧ TK G G' := by
  have t := h.hp.tk k
  obtain ⟨xs, h1, h2⟩ := h.rw'
  obtain ⟨row, j, g1, g2⟩ := h.dr
  obtain ⟨n1, n2, n3⟩ := h.hp.ne_o h.dr
  obtain ⟨m1, m2⟩ := h.hp.ne_l h1
  obtain ⟨q1, q2⟩ := h.hp.ne_od h.ot
  obtain ⟨dx2, f1⟩ := h.ot.ob
  obtain ⟨kvs2, f2, f3⟩ := h.ot.kv
  refine ⟨⟨row, j, k _ _ n1.symm h.ndp.symm g1, k _ _ n2.symm n3.symm g2⟩, { h.ot with ob := ⟨dx2, k _ _ h.noo.symm q2.symm f1⟩, kv := ⟨kvs2, k _ _ q1.symm h.ndd.symm f2, f3.keep t⟩ }, ⟨xs, k _ _ m1 m2 h1, h2.keep t⟩, t⟩
theorem ats_set {H : Hp} {k : Td} {v : V} (hk : k.At H v) : ∀ {l : List Td} {xs : List V} (i : Nat), Td.Ats H l xs → Td.Ats H (l.set i k) (xs.set i v)
  | [], _, i, h => by cases h; exact rfl
  | t :: l, _, 0, ⟨x, ys, e, h, hs⟩ => by cases e; exact ⟨v, ys, rfl, hk, hs⟩
  | t :: l, _, i + 1, ⟨x, ys, e, h, hs⟩ => by cases e; exact ⟨x, _, rfl, h, ats_set hk i hs⟩
theorem setAt_map {rs : Rws} {i : Nat} {a : Int} {c e : Cel} (h : rs[i]? = some (a, e)) : (setAt i c rs).map rowT = (rs.map rowT).set i (rowT (a, c)) := by
  unfold setAt
  rw [List.map_set, h]
  rfl
section
variable {P : Program} {w : World} {K : PySem.W.Frag} {mg : Str → Option Value} {base : Heap} {C : Addr}
abbrev sLaw : Stmt := topS 11
theorem scLaw : FnScope ["script", "w", "room", "heap", "other", "rows", "above", "k", "cell", "turn", "at"] ["script"] (defScope sLaw) := ⟨rfl, rfl, rfl, by decide +kernel, rfl, by decide +kernel, by decide +kernel⟩
def spLaw (K : PySem.W.Frag) : Sp := fun vs H Q _ => ∃ (a : Addr) (ns : List Int), vs = [.ref a] ∧ SqL K H a (ns.map V.int) ∧ ns.length ≤ 63 ∧ ∀ H', Q (.bl true) H'
theorem c_law {f : Addr} {fd : FuncData} (T : TxtL mg) (TH : TxtH K mg C) (c_law_draws : C8.Cal P w K mg base 1 "_law_draws" (spDraws K) []) (c_law_next : C8.Cal P w K mg base 2 "_law_next" spNext []) (c_law_cell : C8.Cal P w K mg base 3 "_law_cell" spLCell [])
    (csize_of : C8.Cal P w K mg base 1 "size_of" spSize []) (c_law_size : C8.Cal P w K mg base 1 "_law_size" spSize []) (cHeap : C8.Mak P w K mg base 1 "Heap" C (spInit C) []) (cmake : C8.Met P w K mg base 2 C "make" (spMake C) []) (cput : C8.Met P w K mg base 2 C "put" (spPut C) []) (caddresses : C8.Met P w K mg base 1 C "addresses" (spAddrs C) [])
    (c_law_renewed : C8.Cal P w K mg base 3 "_law_renewed" (spRenewed C) []) (c_law_agrees : C8.Cal P w K mg base 3 "_law_agrees" (spAgrees C) [])
    (F : Fun K "law" "law" sLaw f fd) : FnOk P w K mg base CX0 5 f fd ["script"] (spLaw K) := by
  refine F.ok scLaw (fun vs H Q E h => ?_) (fun cdv A outer s H vs Q E hr h => ?_)
  · obtain ⟨a, ns, rfl, _⟩ := h
    rfl
  obtain ⟨a, ns, rfl, hS, h63, q⟩ := h
  have hu := hu_of hr
  have hu64 := hr.units
  refine ⟨_, (pss_cons (ps_set (i := 1) scLaw.nd rfl (Or.inl rfl) (pe_disp (pps_cons pe_str (C8.pe_c c_law_draws hr (by decide) rfl (pa_cons (pv 0) (pa_cons pe_int pa_nil))) (pps_cons pe_str pe_int pps_nil)) rfl rfl (by decide) (by decide)))
    (pss_cons (ps_set (i := 2) scLaw.nd rfl (Or.inl rfl) (C8.pe_c c_law_next hr (by decide) rfl (pa_cons (pv 1) (pa_cons pe_int pa_nil))))
    (pss_cons (ps_set (i := 3) scLaw.nd rfl (Or.inl rfl) (C8.pe_mk cHeap hr (by decide) rfl (pa_cons (pv 2) pa_nil)))
    (pss_cons (ps_set (i := 4) scLaw.nd rfl (Or.inl rfl) (C8.pe_mk cHeap hr (by decide) rfl (pa_cons pe_int pa_nil)))
    (pss_cons (ps_set (i := 5) scLaw.nd rfl (Or.inl rfl) (pe_lst pa_nil))
    (pss_cons (ps_set (i := 6) scLaw.nd rfl (Or.inl rfl) pe_int)
    (pss_cons (ps_for PassesOwn.never rfl (pi_range1 rfl T.zrange (pa_cons (pe_op op_add pe_int (pe_callB (call_min2 rfl) rfl T.zmin boot_min (pa_cons pe_int (pa_cons (pe_callB call_len_seq rfl T.zlen PySem.boot_len (pa_cons (pv 0) pa_nil)) pa_nil)))) pa_nil)) (pg_name (i := 7) scLaw.nd rfl (Or.inl rfl))
      (pss_cons (ps_set (i := 8) scLaw.nd rfl (Or.inl rfl) (C8.pe_c c_law_cell hr (by decide) rfl (pa_cons (pv 1) pa_nil)))
    (pss_cons (ps_if (pt_cmpR op_ne (C8.pe_c csize_of hr (by decide) rfl (pa_cons (pv 8) pa_nil)) (C8.pe_c c_law_size hr (by decide) rfl (pa_cons (pv 8) pa_nil)) (nomark _))
      (pss_one (ps_ret pe_bl))
      pss_nil)
    (pss_cons (ps_set (i := 9) scLaw.nd rfl (Or.inl rfl) (C8.pe_c c_law_next hr (by decide) rfl (pa_cons (pv 1) (pa_cons pe_int pa_nil))))
    (C8.pss_cut (ps_if (PW.pt (pw_or (pt_cmpR op_lt (pv 9) pe_int (nomark _)) (pw_or1 (pt_cmpR (op_eqD hu64) (pv 5) (pe_lst pa_nil) (nomark _)))))
      (pss_cons (ps_if (pt_cmpR op_ne (C8.pe_mt cmake hr (by decide) (pv 3) (pa_cons (pv 8) pa_nil)) (pv 6) (nomark _))
      (pss_one (ps_ret pe_bl))
      pss_nil)
    (pss_cons (ps_expr (pe_bm PySem.F.plainAttrs_list PySem.F.slot_list_append PySem.F.type_list_append mt_append (pv 5) (pa_cons (pe_tup (pa_cons (pv 6) (pa_cons (pv 8) pa_nil))) pa_nil)))
    (pss_one (ps_aug (i := 6) scLaw.nd rfl (Or.inl rfl) pe_int ip_add))))
      (pss_one (ps_if (pt_cmpR op_lt (pv 9) pe_int (nomark _))
      (pss_cons (ps_set (i := 10) scLaw.nd rfl (Or.inl rfl) (C8.pe_c c_law_next hr (by decide) rfl (pa_cons (pv 1) (pa_cons (pe_callB call_len_seq rfl T.zlen PySem.boot_len (pa_cons (pv 5) pa_nil)) pa_nil))))
    (pss_cons (ps_expr (C8.pe_mt cput hr (by decide) (pv 3) (pa_cons (pe_ix ix_tup (pe_ix ix_list (pv 5) (pv 10) (fun _ _ => rfl)) pe_int (fun _ _ => rfl)) (pa_cons (pv 8) pa_nil))))
    (pss_one (ps_asg (pe_tup (pa_cons (pe_ix ix_tup (pe_ix ix_list (pv 5) (pv 10) (fun _ _ => rfl)) pe_int (fun _ _ => rfl)) (pa_cons (pv 8) pa_nil))) (pg_sub (pv 5) (pv 10) set_list)))))
      (pss_one (ps_asg (C8.pe_c c_law_renewed hr (by decide) rfl (pa_cons (pv 1) (pa_cons (pv 3) (pa_cons (pv 5) pa_nil)))) (pg_tup rfl (pgs_cons (pg_name (i := 5) scLaw.nd rfl (Or.inl rfl)) (pgs_cons (pg_name (i := 6) scLaw.nd rfl (Or.inl rfl)) pgs_nil))))))))
    (pss_one (ps_if (PW.pt (pw_or (pt_not (pt_val (C8.pe_c c_law_agrees hr (by decide) rfl (pa_cons (pv 3) (pa_cons (pv 5) (pa_cons (pv 2) pa_nil)))))) (pw_or (pt_cmpR (op_neD hu64) (C8.pe_mt0 caddresses hr (by decide) (pv 4)) (pe_lst pa_nil) (nomark _)) (pw_or1 (pt_cmpR op_ne (pe_fld (pv 4) rfl) pe_int (nomark _))))))
      (pss_one (ps_ret pe_bl))
      pss_nil)))))))
    (pss_one (ps_ret pe_bl))))))))), ?_⟩
  intro p hp
  refine ⟨_, rfl, a, ns, 700, rfl, (same_new hp _).seq hS, h63, by decide, fun r row H2 hr0 s2 hrow => ?_⟩
  have npr : r ≠ p := fun e => by rw [e, upd_same] at hr0; cases hr0
  have hp2 := s2 _ _ (upd_same (H := H) (a := p) (o := .dK []))
  refine ⟨hp2, [(Sum.inr "draws", V.ref r), (Sum.inr "at", V.int 0)], rfl, (by show 2 ≤ 15; decide), ?_⟩
  have hS2 : SqL K (upd H2 p (.dK (mergeK [] [(Sum.inr "draws", V.ref r), (Sum.inr "at", V.int 0)]))) a (ns.map V.int) := (same_upd hp (fun b u e => s2 _ _ (same_new hp _ _ _ e)) _).seq hS
  have d3 : DrawsAt (upd H2 p (.dK (mergeK [] [(Sum.inr "draws", V.ref r), (Sum.inr "at", V.int 0)]))) p r := ⟨row, 0, by rw [upd_same, dk_merge]; rfl, by rw [upd_ne npr]; exact hrow⟩
  generalize upd H2 p (.dK (mergeK [] [(Sum.inr "draws", V.ref r), (Sum.inr "at", V.int 0)])) = H3 at d3 hS2 ⊢
  refine ⟨_, rfl, p, r, 60, rfl, by decide, d3, fun room H4 r0 r60 k4 d4 => ?_⟩
  have hS4 := SqL.keep hS2 k4 d3
  -- the two heaps
  refine ⟨_, rfl, fun o dx ho0 hdx0 hdxo => ?_⟩
  have e5 : upd (upd H4 dx (.own o)) o (.ins C dx []) o = some (.ins C dx []) := upd_same
  have s5 : Same H4 (upd (upd H4 dx (.own o)) o (.ins C dx [])) := fun b u e => by
    rw [upd_ne (ne_of_none e ho0), upd_ne (ne_of_none e hdx0)]
    exact e
  refine ⟨o, dx, room, rfl, e5, fun d H5 hd hH5 k5 => ⟨rfl, ?_⟩⟩
  have hdH : H4 d = none := s5.free hd
  have nod : o ≠ d := fun z => by rw [← z, e5] at hd; cases hd
  have s45 : Same H4 H5 := fun b u e => k5 _ _ (s5 _ _ e) (ne_of_none e ho0)
  have d5 := d4.same s45
  have hS5 := s45.seq hS4
  intro o2 dx2 ho20 hdx20 hdxo2
  have e6 : upd (upd H5 dx2 (.own o2)) o2 (.ins C dx2 []) o2 = some (.ins C dx2 []) := upd_same
  have s6 : Same H5 (upd (upd H5 dx2 (.own o2)) o2 (.ins C dx2 [])) := fun b u e => by
    rw [upd_ne (ne_of_none e ho20), upd_ne (ne_of_none e hdx20)]
    exact e
  refine ⟨o2, dx2, 5, rfl, e6, fun d2 H6 hd2 hH6 k6 => ⟨rfl, ?_⟩⟩
  have s56 : Same H5 H6 := fun b u e => k6 _ _ (s6 _ _ e) (ne_of_none e ho20)
  have d6 := d5.same s56
  have hS6 := s56.seq hS5
  have hd2H : H5 d2 = none := s6.free hd2
  have hH6' := hH5.same s56
  have noo : o ≠ o2 := fun z => by obtain ⟨_, h⟩ := hH5.ob; rw [z, ho20] at h; cases h
  have ndd : d ≠ d2 := fun z => by obtain ⟨_, h, _⟩ := hH5.kv; rw [z, hd2H] at h; cases h
  obtain ⟨ndp, ndr⟩ := d4.fresh hdH
  obtain ⟨nd2p, nd2r⟩ := d5.fresh hd2H
  refine ⟨by show 0 ≤ sizeLine; decide, fun L hL => ?_⟩
  obtain ⟨nLp, nLr⟩ := d6.fresh hL
  have s7 := same_new hL (.lst [])
  have la : LawAt C (upd H6 L (.lst [])) p r o d o2 d2 L room 0 [] 0 := ⟨d6.same s7, hH6'.same s7, hH6.same s7, ⟨[], upd_same, rfl⟩, noo, ndd, ndp, nd2p, nLr, (fun q h => by cases h), Nat.le_refl _⟩
  have hS7 := s7.seq hS6
  generalize upd H6 L (.lst []) = H7 at la hS7 ⊢
  clear hL s7 nLp nd2r ndr d6 hS6 hH6' hH6 k6 s56 e6 s6 hd2 hd2H d5 hS5 s45 hH5 k5 hd e5 s5 hdH hS4 d4 k4 d3 hS2 hrow s2 hp2
  refine ⟨_, rfl, a, _, rfl, .inl hS7, _, _, rfl, _, _, rfl, rfl, ?_⟩
  have hn : ∀ z : Int, (20 : Int) + (if z < 40 then z else 40) ≤ 60 := fun z => by split <;> omega
  refine ⟨_, rfl, ?_, ?_, for_range
    (fun (i : Nat) σ G => ∃ (v7 v8 v9 v10 : Option V) (d L : Addr) (above : Int) (rs : Rws), σ = [some (.ref a), some (.ref p), some (.int room), some (.ref o), some (.ref o2), some (.ref L), some (.int above), v7, v8, v9, v10] ∧ LawAt C G p r o d o2 d2 L room above rs i)
    ⟨_, _, _, _, d, L, 0, [], rfl, la⟩ ?_ ?_⟩
  · have : (0 : Int) ≤ (ns.map V.int).length := by omega
    split <;> omega
  · have := hn ((ns.map V.int).length : Int)
    omega
  · clear la hS7 nLr ndp ndd nod
    rintro i σ G hi ⟨v7, v8, v9, v10, d, L, above, rs, rfl, l1⟩
    have hi60 : i < 60 := by
      have hi := hi
      have := hn ((ns.map V.int).length : Int)
      omega
    refine ⟨_, rfl, p, r, rfl, l1.dr, fun v c G2 k2 d2' at2 wl => ?_⟩
    have l2 := l1.keep k2 d2'
    refine ⟨_, rfl, v, c, rfl, at2, by omega, fun G3 s3 => ?_⟩
    refine ⟨_, rfl, v, c, rfl, at2.keep (tk_same s3), by omega, fun G4 s4 => ⟨rfl, _, rfl, ?_⟩⟩
    rw [nself]
    refine iteF ?_
    have s24 := sameT s3 s4
    have l4 := l2.same s24
    have hat4 := at2.keep (tk_same s24)
    refine ⟨_, rfl, p, r, 8, rfl, by decide, l4.dr, fun turn G5 tn0 tn8 k5 dr5 => ?_⟩
    have l5 := l4.keep k5 dr5
    have hat5 := hat4.keep (tk_keep k5 l4.dr.notup)
    obtain ⟨dx, ho⟩ := l5.hp.ob
    refine ⟨fun σ G => ∃ (v10 : Option V) (d L : Addr) (above : Int) (rs : Rws), σ = [some (.ref a), some (.ref p), some (.int room), some (.ref o), some (.ref o2), some (.ref L), some (.int above), some (.int (0 + (i : Int))), some v, some (.int turn), v10] ∧ LawAt C G p r o d o2 d2 L room above rs (i + 1), ?_, ?_⟩
    · refine ⟨_, rfl, _, _, rfl, rfl, _, rfl, ?_⟩
      refine ite2 (fun _ => ?_) (fun nt5 => ?_)
      · refine iteT ?_
        refine ⟨_, rfl, o, dx, _, rfl, ho, fldH_no _ _ _ _ mnames.1, _, rfl, o, d, room, above, rs, v, c, rfl, l5.hp, hat5, by omega, fun hm => ?_, by have := l5.len; omega, fun G6 k6 hp6 => ⟨_, rfl, rfl, _, rfl, ?_⟩⟩
        · obtain ⟨z, hz, ez⟩ := List.mem_map.mp hm
          have := l5.lt z hz
          omega
        rw [nself]
        refine iteF ?_
        obtain ⟨d6, ot6, ⟨xs, hL6, hxs6⟩, t6⟩ := l5.heap k6 hp6
        have hxl : xs.length ≤ i := by rw [ats_len hxs6, List.length_map]; exact l5.len
        refine ⟨_, rfl, .inl ⟨rfl, _, SqL.of hL6⟩, _, rfl, _, rfl, by show 2 ≤ sizeLine; decide, fun t ht => ?_⟩
        have s7 := same_new ht (.tup [.int above, v])
        have e7 : upd G6 t (.tup [.int above, v]) t = some (.tup [.int above, v]) := upd_same
        have hat7 := (hat5.keep t6).keep (tk_same s7)
        have hL7 := s7 _ _ hL6
        have hxs7 := hxs6.keep (tk_same s7)
        have d7 := d6.same s7
        have ot7 := ot6.same s7
        have hp7 := hp6.same s7
        generalize upd G6 t (.tup [.int above, v]) = G7 at s7 e7 hat7 hL7 hxs7 d7 ot7 hp7 ⊢
        refine ⟨L, xs, _, rfl, rfl, hL7, szl (by omega), ?_⟩
        have t8 : TK G7 (upd G7 L (.lst (xs ++ [.ref t]))) := tk_list hL7
        obtain ⟨m1, m2⟩ := hp7.ne_l hL7
        obtain ⟨m3, m4⟩ := ot7.ne_l hL7
        refine ⟨_, rfl, _, _, rfl, rfl, ?_⟩
        refine ⟨_, d, L, above + 1, rs ++ [(above, c)], rfl, d7.off (d7.ne_list hL7) l5.nLr _, hp7.off m1 m2 t8, ot7.off m3 m4 t8, ⟨_, upd_same, ?_⟩, l5.noo, l5.ndd, l5.ndp, l5.nd2p, l5.nLr, fun z hz => ?_, ?_⟩
        · rw [List.map_append]
          exact ats_app (hxs7.keep t8) (ats_one (at_row (r := (above, c)) (t8 _ _ e7) (hat7.keep t8)))
        · rcases List.mem_append.mp hz with h | h
          · have := l5.lt z h; omega
          · rw [List.mem_singleton.mp h]; show above < above + 1; omega
        · rw [List.length_append]; have := l5.len; show rs.length + 1 ≤ i + 1; omega
      · obtain ⟨xs, hL, hxs⟩ := l5.rw'
        refine ⟨_, rfl, by show 0 ≤ sizeLine; decide, fun lz hlz => ?_⟩
        have s6 := same_new hlz (.lst [])
        have e6 : upd G5 lz (.lst []) lz = some (.lst []) := upd_same
        replace l5 := l5.same s6
        replace hat5 := hat5.keep (tk_same s6)
        replace ho := s6 _ _ ho
        replace hL := s6 _ _ hL
        replace hxs := hxs.keep (tk_same s6)
        generalize upd G5 lz (.lst []) = G6 at s6 e6 l5 hat5 ho hL hxs ⊢
        obtain ⟨sh1, sh2⟩ := rows_shaped rs
        have shr : SeqAt.shaped (.list (Td.Ds (rs.map rowT))) = true := Td.shapedL sh1 (by omega)
        have sh0 : SeqAt.shaped (.list []) = true := Td.shapedL (l := []) rfl (Nat.zero_le _)
        refine ⟨_, _, .lst (SqL.of hL) hxs.dp, .lst (SqL.of e6) .nil, shr, sh0, _, rfl, ?_⟩
        rw [eqv_nil]
        cases hrs : (Td.Ds (rs.map rowT)).isEmpty with
        | true =>
          refine iteT ?_
          refine ⟨_, rfl, o, dx, _, rfl, ho, fldH_no _ _ _ _ mnames.1, _, rfl, o, d, room, above, rs, v, c, rfl, l5.hp, hat5, by omega, fun hm => ?_, by have := l5.len; omega, fun G60 k6 hp6 => ⟨_, rfl, rfl, _, rfl, ?_⟩⟩
          · obtain ⟨z, hz, ez⟩ := List.mem_map.mp hm
            have := l5.lt z hz
            omega
          rw [nself]
          refine iteF ?_
          obtain ⟨d6, ot6, ⟨xs, hL6, hxs6⟩, t6⟩ := l5.heap k6 hp6
          have hxl : xs.length ≤ i := by rw [ats_len hxs6, List.length_map]; exact l5.len
          refine ⟨_, rfl, .inl ⟨rfl, _, SqL.of hL6⟩, _, rfl, _, rfl, by show 2 ≤ sizeLine; decide, fun t ht => ?_⟩
          have s7 := same_new ht (.tup [.int above, v])
          have e7 : upd G60 t (.tup [.int above, v]) t = some (.tup [.int above, v]) := upd_same
          have hat7 := (hat5.keep t6).keep (tk_same s7)
          have hL7 := s7 _ _ hL6
          have hxs7 := hxs6.keep (tk_same s7)
          have d7 := d6.same s7
          have ot7 := ot6.same s7
          have hp7 := hp6.same s7
          generalize upd G60 t (.tup [.int above, v]) = G70 at s7 e7 hat7 hL7 hxs7 d7 ot7 hp7 ⊢
          refine ⟨L, xs, _, rfl, rfl, hL7, szl (by omega), ?_⟩
          have t8 : TK G70 (upd G70 L (.lst (xs ++ [.ref t]))) := tk_list hL7
          obtain ⟨m1, m2⟩ := hp7.ne_l hL7
          obtain ⟨m3, m4⟩ := ot7.ne_l hL7
          refine ⟨_, rfl, _, _, rfl, rfl, ?_⟩
          refine ⟨_, d, L, above + 1, rs ++ [(above, c)], rfl, d7.off (d7.ne_list hL7) l5.nLr _, hp7.off m1 m2 t8, ot7.off m3 m4 t8, ⟨_, upd_same, ?_⟩, l5.noo, l5.ndd, l5.ndp, l5.nd2p, l5.nLr, fun z hz => ?_, ?_⟩
          · rw [List.map_append]
            exact ats_app (hxs7.keep t8) (ats_one (at_row (r := (above, c)) (t8 _ _ e7) (hat7.keep t8)))
          · rcases List.mem_append.mp hz with h | h
            · have := l5.lt z h; omega
            · rw [List.mem_singleton.mp h]; show above < above + 1; omega
          · rw [List.length_append]; have := l5.len; show rs.length + 1 ≤ i + 1; omega
        | false =>
          refine iteF ?_
          have hne : 0 < rs.length := by
            cases rs with
            | nil => cases hrs
            | cons _ _ => exact Nat.succ_pos _
          have hxl : xs.length = rs.length := by rw [ats_len hxs, List.length_map]
          have hrl := l5.hp.len
          refine ⟨_, rfl, _, _, rfl, rfl, _, rfl, ?_⟩
          refine ite2 (fun _ => ?_) (fun _ => ?_)
          · refine ⟨_, rfl, _, rfl, L, _, rfl, .inl (SqL.of hL), p, r, _, rfl, by omega, l5.dr, fun j G7 j0 jn k7 d7 => ?_⟩
            have l7 := l5.keep k7 d7
            have t7 := tk_keep k7 l5.dr.notup
            have hat7 := hat5.keep t7
            have hL7 := k7 _ _ (l5.dr.ne_list hL) hL
            have hxs7 := hxs.keep t7
            obtain ⟨dx7, ho7⟩ := l7.hp.ob
            have hjl : j.toNat < xs.length := by omega
            have hgj := List.getElem?_eq_getElem hjl
            generalize xs[j.toNat] = x at hgj
            obtain ⟨r1, t, u, hr1, rfl, ht, hatr⟩ := rows_get hxs7 hgj
            have hgj' : atI xs j = some (.ref t) := by
              have q := atI_nat (xs := xs) hgj
              rw [show ((j.toNat : Nat) : Int) = j by omega] at q
              exact q
            refine ⟨_, rfl, o, dx7, _, rfl, ho7, fldH_no _ _ _ _ mnames.2.2.1, _, rfl, _, rfl, L, _, _, _, rfl, rfl, SqL.of hL7, hgj', t, _, 0, _, rfl, rfl, SqT.of ht, at0 _ _, _, rfl, o, d, room, above, rs, j.toNat, r1.1, v, c, r1.2, rfl, l7.hp, hr1, hat7, by omega, fun G8 k8 hp8 => ?_⟩
            obtain ⟨d8, ot8, ⟨xs8, hL8, hxs8⟩, t8⟩ := l7.heap k8 hp8
            obtain ⟨m1, m2⟩ := l7.hp.ne_l hL7
            cases (show xs8 = xs by have z := k8 _ _ m1 m2 hL7; rw [hL8] at z; cases z; rfl)
            have ht8 := t8 _ _ ht
            have hat8 := hat7.keep t8
            refine ⟨_, rfl, _, rfl, L, _, _, _, rfl, rfl, SqL.of hL8, hgj', t, _, 0, _, rfl, rfl, SqT.of ht8, at0 _ _, _, rfl, by show 2 ≤ sizeLine; decide, fun t1 ht1 => ?_⟩
            have s9 := same_new ht1 (.tup [.int r1.1, v])
            have e9 : upd G8 t1 (.tup [.int r1.1, v]) t1 = some (.tup [.int r1.1, v]) := upd_same
            have hat9 := hat8.keep (tk_same s9)
            have hL9 := s9 _ _ hL8
            have hxs9 := hxs8.keep (tk_same s9)
            have d9 := d8.same s9
            have ot9 := ot8.same s9
            have hp9 := hp8.same s9
            generalize upd G8 t1 (.tup [.int r1.1, v]) = G9 at s9 e9 hat9 hL9 hxs9 d9 ot9 hp9 ⊢
            refine ⟨_, rfl, _, rfl, L, xs, j, j.toNat, rfl, rfl, hL9, ?_, ?_⟩
            · unfold ixN
              rw [if_pos j0, if_pos (by omega)]
            have t10 : TK G9 (upd G9 L (.lst (xs.set j.toNat (.ref t1)))) := tk_list hL9
            obtain ⟨m3, m4⟩ := ot9.ne_l hL9
            obtain ⟨m5, m6⟩ := hp9.ne_l hL9
            refine ⟨_, d, L, above, setAt j.toNat c rs, rfl, d9.off (d9.ne_list hL9) l5.nLr _, hp9.off m5 m6 t10, ot9.off m3 m4 t10, ⟨_, upd_same, ?_⟩, l5.noo, l5.ndd, l5.ndp, l5.nd2p, l5.nLr, fun z hz => ?_, ?_⟩
            · rw [setAt_map hr1]
              exact ats_set (at_row (r := (r1.1, c)) (t10 _ _ e9) (hat9.keep t10)) _ (hxs9.keep t10)
            · have hk : z.1 ∈ (setAt j.toNat c rs).map (·.1) := List.mem_map.mpr ⟨z, hz, rfl⟩
              rw [setAt_keys] at hk
              obtain ⟨y, hy, ey⟩ := List.mem_map.mp hk
              have := l5.lt y hy
              omega
            · have := congrArg List.length (setAt_keys j.toNat c rs)
              rw [List.length_map, List.length_map] at this
              have := l5.len
              omega
          · refine ⟨_, rfl, _, rfl, _, rfl, p, r, o, d, L, room, above, rs, xs, rfl, l5.dr, l5.ndp, l5.nLr, l5.hp, hL, hxs, fun t L' d' G7 ys qs ab k7 dr7 ht hL' hd' nL'p hys hats hp7 lt7 len7 => ?_⟩
            refine ⟨t, _, rfl, SqT.of ht, rfl, _, _, rfl, _, _, rfl, rfl, ?_⟩
            obtain ⟨dx2', f1⟩ := l5.ot.ob
            obtain ⟨kvs2, f2, f3⟩ := l5.ot.kv
            obtain ⟨n1, n2, n3⟩ := l5.ot.ne_o l5.dr
            obtain ⟨q1, q2⟩ := l5.hp.ne_od l5.ot
            have t7 : TK G6 G7 := fun b ws z => k7 _ _ (fun y => by obtain ⟨_, _, h, _⟩ := l5.dr; rw [y, h] at z; cases z) (fun y => by rw [y, ho] at z; cases z) z
            obtain ⟨n4, n5⟩ := l5.dr.fresh hd'
            obtain ⟨n6, n7⟩ := l5.dr.fresh hL'
            exact ⟨_, d', L', ab, qs, rfl, dr7, hp7, { l5.ot with ob := ⟨dx2', k7 _ _ n1 l5.noo.symm f1⟩, kv := ⟨kvs2, k7 _ _ l5.nd2p q1.symm f2, f3.keep t7⟩ }, ⟨ys, hys, hats⟩, l5.noo, fun y => (by rw [y, f2] at hd'; cases hd'), n4, l5.nd2p, n7, lt7, by have := l5.len; omega⟩
    rintro σ G6 ⟨v10, d, L, above, rs, rfl, l6⟩
    obtain ⟨xs, hL, hxs⟩ := l6.rw'
    refine ⟨_, rfl, _, rfl, _, rfl, o, d, L, room, above, rs, xs, rfl, l6.hp, hL, hxs, fun G7 s7 => ?_⟩
    have l7 := l6.same s7
    obtain ⟨dx2', f1⟩ := l7.ot.ob
    refine ⟨_, rfl, ?_⟩
    refine iteF ?_
    refine ⟨_, rfl, o2, dx2', _, rfl, f1, fldH_no _ _ _ _ mnames.2.2.2.1, o2, d2, 5, 0, [], rfl, l7.ot, fun p3 z3 G8 hp3 s8 e8 pm8 up8 => ?_⟩
    cases (List.Perm.eq_nil pm8)
    refine ⟨by show 0 ≤ sizeLine; decide, fun lz hlz => ?_⟩
    have s9 := same_new hlz (.lst [])
    have sh0 : SeqAt.shaped (.list []) = true := Td.shapedL (l := []) rfl (Nat.zero_le _)
    refine ⟨.list [], .list [], .lst (SqL.of (s9 _ _ e8)) .nil, .lst (SqL.of upd_same) .nil, sh0, sh0, _, rfl, ?_⟩
    rw [eqv_self sh0]
    refine iteF ?_
    have s79 := sameT s8 s9
    refine ⟨_, rfl, o2, C, dx2', _, .int 0, rfl, s79 _ _ f1, TH.cl, TH.nU, fldH_used _ _ _ _, rfl, _, rfl, ?_⟩
    rw [nself]
    refine iteF ?_
    exact ⟨_, _, _, _, d, L, above, rs, rfl, l7.same s79⟩
  rintro σ G ⟨v7, v8, v9, v10, d, L, above, rs, rfl, l1⟩
  exact q _
end
end Toy

set_option Elab.async false
set_option linter.all false
set_option maxRecDepth 100000
set_option maxHeartbeats 4000000
/-! The last part: what the program's top has left, and the end. -/
namespace Toy
open PySem L2
open PyProof.Rows (envOfC)
theorem all_mk {l : PySem.W.OpenLaw} {w : World} {K : PySem.W.Frag} {h : Heap} {mg : Str → Option Value} {fa : Addr} {f0 f1 f2 f3 f4 f5 f6 f7 : Addr} (X : K.In h) (G : h.Ns mainGlobals mg) (hfa : mg "law" = some (.ref fa))
    {od0 an0 od1 an1 od2 an2 od3 an3 od4 an4 od5 an5 od6 an6 od7 an7 : Option Addr} {sl0 sl1 sl2 sl3 sl4 sl5 sl6 sl7 : Array (Option Value)} {oc0 kV0 dc0 pm0 cd0 ct0 oc1 kV1 dc1 pm1 cd1 ct1 oc2 kV2 dc2 pm2 cd2 ct2 oc3 kV3 dc3 pm3 cd3 ct3 oc4 kV4 dc4 pm4 cd4 ct4 oc5 kV5 dc5 pm5 cd5 ct5 oc6 kV6 dc6 pm6 cd6 ct6 oc7 kV7 dc7 pm7 cd7 ct7 : Value}
    {C : Addr} {tkL : Tok} {gInit : Addr} {modInit manInit : Option Addr} {mslInit : Array (Option Value)} {mocInit mkVInit mdcInit mpmInit mcdInit mctInit : Value} {gMake : Addr} {modMake manMake : Option Addr} {mslMake : Array (Option Value)} {mocMake mkVMake mdcMake mpmMake mcdMake mctMake : Value} {gCell : Addr} {modCell manCell : Option Addr} {mslCell : Array (Option Value)} {mocCell mkVCell mdcCell mpmCell mcdCell mctCell : Value} {gPut : Addr} {modPut manPut : Option Addr} {mslPut : Array (Option Value)} {mocPut mkVPut mdcPut mpmPut mcdPut mctPut : Value} {gAddrs : Addr} {modAddrs manAddrs : Option Addr} {mslAddrs : Array (Option Value)} {mocAddrs mkVAddrs mdcAddrs mpmAddrs mcdAddrs mctAddrs : Value} {gFits : Addr} {modFits manFits : Option Addr} {mslFits : Array (Option Value)} {mocFits mkVFits mdcFits mpmFits mcdFits mctFits : Value} {gRenew : Addr} {modRenew manRenew : Option Addr} {mslRenew : Array (Option Value)} {mocRenew mkVRenew mdcRenew mpmRenew mcdRenew mctRenew : Value} 
    (a0 : PySem.W.nsIn K mainGlobals "size_of" = some (some (.ref f0)))
    (l0 : K.lookup f0 = some ⟨oc0, od0, .func (PySem.W.fnOf "size_of" "size_of" (defArgs sSize) (defBody sSize) (defScope sSize) .none kV0 dc0 pm0 an0 cd0 ct0), sl0⟩)
    (c0 : PySem.W.codeIn K cd0 "size_of" = true)
    (k0 : PySem.W.keepIn K (.ref f0) = true)
    (a1 : PySem.W.nsIn K mainGlobals "_law_draws" = some (some (.ref f1)))
    (l1 : K.lookup f1 = some ⟨oc1, od1, .func (PySem.W.fnOf "_law_draws" "_law_draws" (defArgs sDraws) (defBody sDraws) (defScope sDraws) .none kV1 dc1 pm1 an1 cd1 ct1), sl1⟩)
    (c1 : PySem.W.codeIn K cd1 "_law_draws" = true)
    (k1 : PySem.W.keepIn K (.ref f1) = true)
    (a2 : PySem.W.nsIn K mainGlobals "_law_next" = some (some (.ref f2)))
    (l2 : K.lookup f2 = some ⟨oc2, od2, .func (PySem.W.fnOf "_law_next" "_law_next" (defArgs sNext) (defBody sNext) (defScope sNext) .none kV2 dc2 pm2 an2 cd2 ct2), sl2⟩)
    (c2 : PySem.W.codeIn K cd2 "_law_next" = true)
    (k2 : PySem.W.keepIn K (.ref f2) = true)
    (a3 : PySem.W.nsIn K mainGlobals "_law_cell" = some (some (.ref f3)))
    (l3 : K.lookup f3 = some ⟨oc3, od3, .func (PySem.W.fnOf "_law_cell" "_law_cell" (defArgs sLCell) (defBody sLCell) (defScope sLCell) .none kV3 dc3 pm3 an3 cd3 ct3), sl3⟩)
    (c3 : PySem.W.codeIn K cd3 "_law_cell" = true)
    (k3 : PySem.W.keepIn K (.ref f3) = true)
    (a4 : PySem.W.nsIn K mainGlobals "_law_size" = some (some (.ref f4)))
    (l4 : K.lookup f4 = some ⟨oc4, od4, .func (PySem.W.fnOf "_law_size" "_law_size" (defArgs sLSize) (defBody sLSize) (defScope sLSize) .none kV4 dc4 pm4 an4 cd4 ct4), sl4⟩)
    (c4 : PySem.W.codeIn K cd4 "_law_size" = true)
    (k4 : PySem.W.keepIn K (.ref f4) = true)
    (a5 : PySem.W.nsIn K mainGlobals "_law_agrees" = some (some (.ref f5)))
    (l5 : K.lookup f5 = some ⟨oc5, od5, .func (PySem.W.fnOf "_law_agrees" "_law_agrees" (defArgs sAgrees) (defBody sAgrees) (defScope sAgrees) .none kV5 dc5 pm5 an5 cd5 ct5), sl5⟩)
    (c5 : PySem.W.codeIn K cd5 "_law_agrees" = true)
    (k5 : PySem.W.keepIn K (.ref f5) = true)
    (a6 : PySem.W.nsIn K mainGlobals "_law_renewed" = some (some (.ref f6)))
    (l6 : K.lookup f6 = some ⟨oc6, od6, .func (PySem.W.fnOf "_law_renewed" "_law_renewed" (defArgs sRenewed) (defBody sRenewed) (defScope sRenewed) .none kV6 dc6 pm6 an6 cd6 ct6), sl6⟩)
    (c6 : PySem.W.codeIn K cd6 "_law_renewed" = true)
    (k6 : PySem.W.keepIn K (.ref f6) = true)
    (a7 : PySem.W.nsIn K mainGlobals "law" = some (some (.ref f7)))
    (l7 : K.lookup f7 = some ⟨oc7, od7, .func (PySem.W.fnOf "law" "law" (defArgs sLaw) (defBody sLaw) (defScope sLaw) .none kV7 dc7 pm7 an7 cd7 ct7), sl7⟩)
    (c7 : PySem.W.codeIn K cd7 "law" = true)
    (k7 : PySem.W.keepIn K (.ref f7) = true)
    (aCl : PySem.W.nsIn K mainGlobals "Heap" = some (some (.ref C)))
    (pg : PySem.W.plainGet K C Str.empty = true)
    (hd : PySem.W.hasDictIn K C = true)
    (po : PySem.W.plainOver K C = true)
    (sa : PySem.W.findIn K (.ref C) "__setattr__" = some (some (.builtin "object.__setattr__")))
    (mk : PySem.W.makesIn K C = true)
    (kc : PySem.W.keepIn K (.ref C) = true)
    (nR1 : PySem.W.findIn K (.ref C) "room" = some none)
    (nU1 : PySem.W.findIn K (.ref C) "used" = some none)
    (nC1 : PySem.W.findIn K (.ref C) "cells" = some none)
    (nN1 : PySem.W.findIn K (.ref C) "next_address" = some none)
    (cstL : PySem.W.nsIn K mainGlobals "LEAST_SIZE_OF_DELAYED" = some (some (.int 2 tkL)))
    (maInit : PySem.W.findIn K (.ref C) "__init__" = some (some (.ref gInit)))
    (miInit : PySem.W.isFn K (.ref gInit) = true)
    (mlInit : K.lookup gInit = some ⟨mocInit, modInit, .func (PySem.W.fnOf "__init__" "Heap.__init__" (defArgs sInit) (defBody sInit) (defScope sInit) .none mkVInit mdcInit mpmInit manInit mcdInit mctInit), mslInit⟩)
    (mcInit : PySem.W.codeIn K mcdInit "Heap.__init__" = true)
    (mkInit : PySem.W.keepIn K (.ref gInit) = true)
    (maMake : PySem.W.findIn K (.ref C) "make" = some (some (.ref gMake)))
    (miMake : PySem.W.isFn K (.ref gMake) = true)
    (mlMake : K.lookup gMake = some ⟨mocMake, modMake, .func (PySem.W.fnOf "make" "Heap.make" (defArgs sMake) (defBody sMake) (defScope sMake) .none mkVMake mdcMake mpmMake manMake mcdMake mctMake), mslMake⟩)
    (mcMake : PySem.W.codeIn K mcdMake "Heap.make" = true)
    (mkMake : PySem.W.keepIn K (.ref gMake) = true)
    (maCell : PySem.W.findIn K (.ref C) "cell" = some (some (.ref gCell)))
    (miCell : PySem.W.isFn K (.ref gCell) = true)
    (mlCell : K.lookup gCell = some ⟨mocCell, modCell, .func (PySem.W.fnOf "cell" "Heap.cell" (defArgs sCell) (defBody sCell) (defScope sCell) .none mkVCell mdcCell mpmCell manCell mcdCell mctCell), mslCell⟩)
    (mcCell : PySem.W.codeIn K mcdCell "Heap.cell" = true)
    (mkCell : PySem.W.keepIn K (.ref gCell) = true)
    (maPut : PySem.W.findIn K (.ref C) "put" = some (some (.ref gPut)))
    (miPut : PySem.W.isFn K (.ref gPut) = true)
    (mlPut : K.lookup gPut = some ⟨mocPut, modPut, .func (PySem.W.fnOf "put" "Heap.put" (defArgs sPut) (defBody sPut) (defScope sPut) .none mkVPut mdcPut mpmPut manPut mcdPut mctPut), mslPut⟩)
    (mcPut : PySem.W.codeIn K mcdPut "Heap.put" = true)
    (mkPut : PySem.W.keepIn K (.ref gPut) = true)
    (maAddrs : PySem.W.findIn K (.ref C) "addresses" = some (some (.ref gAddrs)))
    (miAddrs : PySem.W.isFn K (.ref gAddrs) = true)
    (mlAddrs : K.lookup gAddrs = some ⟨mocAddrs, modAddrs, .func (PySem.W.fnOf "addresses" "Heap.addresses" (defArgs sAddrs) (defBody sAddrs) (defScope sAddrs) .none mkVAddrs mdcAddrs mpmAddrs manAddrs mcdAddrs mctAddrs), mslAddrs⟩)
    (mcAddrs : PySem.W.codeIn K mcdAddrs "Heap.addresses" = true)
    (mkAddrs : PySem.W.keepIn K (.ref gAddrs) = true)
    (maFits : PySem.W.findIn K (.ref C) "fits" = some (some (.ref gFits)))
    (miFits : PySem.W.isFn K (.ref gFits) = true)
    (mlFits : K.lookup gFits = some ⟨mocFits, modFits, .func (PySem.W.fnOf "fits" "Heap.fits" (defArgs sFits) (defBody sFits) (defScope sFits) .none mkVFits mdcFits mpmFits manFits mcdFits mctFits), mslFits⟩)
    (mcFits : PySem.W.codeIn K mcdFits "Heap.fits" = true)
    (mkFits : PySem.W.keepIn K (.ref gFits) = true)
    (maRenew : PySem.W.findIn K (.ref C) "renew" = some (some (.ref gRenew)))
    (miRenew : PySem.W.isFn K (.ref gRenew) = true)
    (mlRenew : K.lookup gRenew = some ⟨mocRenew, modRenew, .func (PySem.W.fnOf "renew" "Heap.renew" (defArgs sRenew) (defBody sRenew) (defScope sRenew) .none mkVRenew mdcRenew mpmRenew manRenew mcdRenew mctRenew), mslRenew⟩)
    (mcRenew : PySem.W.codeIn K mcdRenew "Heap.renew" = true)
    (mkRenew : PySem.W.keepIn K (.ref gRenew) = true)
    (zlen : PySem.W.nsIn K mainGlobals "len" = some none)
    (zint : PySem.W.nsIn K mainGlobals "int" = some none)
    (zrange : PySem.W.nsIn K mainGlobals "range" = some none)
    (zabs : PySem.W.nsIn K mainGlobals "abs" = some none)
    (ztuple : PySem.W.nsIn K mainGlobals "tuple" = some none)
    (zlist : PySem.W.nsIn K mainGlobals "list" = some none)
    (zsorted : PySem.W.nsIn K mainGlobals "sorted" = some none)
    (zmax : PySem.W.nsIn K mainGlobals "max" = some none)
    (zmin : PySem.W.nsIn K mainGlobals "min" = some none)
    (zsum : PySem.W.nsIn K mainGlobals "sum" = some none)
    (zdict : PySem.W.nsIn K mainGlobals "dict" = some none) :
    ∃ fd : FuncData, (∀ (s : Shared) (v : Value), BindsTo s fd ⟨[v], []⟩ [("script", v)]) ∧ ∀ base : Heap, K.In base → base.Ns mainGlobals mg → FnOk l.prog w K mg base CX0 5 fa fd ["script"] (spLaw K) := by
  have e := hfa.symm.trans (PySem.W.mg_of X G a7)
  cases e
  have nlen := PySem.W.mg_none_of X G zlen
  have nint := PySem.W.mg_none_of X G zint
  have nrange := PySem.W.mg_none_of X G zrange
  have nabs := PySem.W.mg_none_of X G zabs
  have ntuple := PySem.W.mg_none_of X G ztuple
  have nlist := PySem.W.mg_none_of X G zlist
  have nsorted := PySem.W.mg_none_of X G zsorted
  have nmax := PySem.W.mg_none_of X G zmax
  have nmin := PySem.W.mg_none_of X G zmin
  have nsum := PySem.W.mg_none_of X G zsum
  have ndict := PySem.W.mg_none_of X G zdict
  have FSize := fun_mk (st := sSize) l0 c0 k0
  have bSize := FSize.binds (ps := ["cell"]) fun _ _ _ _ _ _ us hl => match us, hl with | [_], _ => rfl
  have mSize := PySem.W.mg_of X G a0
  have FDraws := fun_mk (st := sDraws) l1 c1 k1
  have bDraws := FDraws.binds (ps := ["script", "many"]) fun _ _ _ _ _ _ us hl => match us, hl with | [_, _], _ => rfl
  have mDraws := PySem.W.mg_of X G a1
  have FNext := fun_mk (st := sNext) l2 c2 k2
  have bNext := FNext.binds (ps := ["w", "many"]) fun _ _ _ _ _ _ us hl => match us, hl with | [_, _], _ => rfl
  have mNext := PySem.W.mg_of X G a2
  have FLCell := fun_mk (st := sLCell) l3 c3 k3
  have bLCell := FLCell.binds (ps := ["w"]) fun _ _ _ _ _ _ us hl => match us, hl with | [_], _ => rfl
  have mLCell := PySem.W.mg_of X G a3
  have FLSize := fun_mk (st := sLSize) l4 c4 k4
  have bLSize := FLSize.binds (ps := ["cell"]) fun _ _ _ _ _ _ us hl => match us, hl with | [_], _ => rfl
  have mLSize := PySem.W.mg_of X G a4
  have FAgrees := fun_mk (st := sAgrees) l5 c5 k5
  have bAgrees := FAgrees.binds (ps := ["heap", "rows", "room"]) fun _ _ _ _ _ _ us hl => match us, hl with | [_, _, _], _ => rfl
  have mAgrees := PySem.W.mg_of X G a5
  have FRenewed := fun_mk (st := sRenewed) l6 c6 k6
  have bRenewed := FRenewed.binds (ps := ["w", "heap", "rows"]) fun _ _ _ _ _ _ us hl => match us, hl with | [_, _, _], _ => rfl
  have mRenewed := PySem.W.mg_of X G a6
  have FLaw := fun_mk (st := sLaw) l7 c7 k7
  have bLaw := FLaw.binds (ps := ["script"]) fun _ _ _ _ _ _ us hl => match us, hl with | [_], _ => rfl
  have mLaw := PySem.W.mg_of X G a7
  refine ⟨PySem.W.fnOf "law" "law" (defArgs sLaw) (defBody sLaw) (defScope sLaw) .none kV7 dc7 pm7 an7 cd7 ct7, fun s v => .of_eq rfl, fun base _ _ => ?_⟩
  have FInit := fun_mk (st := sInit) mlInit mcInit mkInit
  have bInit := FInit.binds (ps := ["self", "room"]) fun _ _ _ _ _ _ us hl => match us, hl with | [_, _], _ => rfl
  have eInit : Meth K C "__init__" gInit := ⟨maInit, miInit, mkInit⟩
  have FMake := fun_mk (st := sMake) mlMake mcMake mkMake
  have bMake := FMake.binds (ps := ["self", "cell"]) fun _ _ _ _ _ _ us hl => match us, hl with | [_, _], _ => rfl
  have eMake : Meth K C "make" gMake := ⟨maMake, miMake, mkMake⟩
  have FCell := fun_mk (st := sCell) mlCell mcCell mkCell
  have bCell := FCell.binds (ps := ["self", "address"]) fun _ _ _ _ _ _ us hl => match us, hl with | [_, _], _ => rfl
  have eCell : Meth K C "cell" gCell := ⟨maCell, miCell, mkCell⟩
  have FPut := fun_mk (st := sPut) mlPut mcPut mkPut
  have bPut := FPut.binds (ps := ["self", "address", "cell"]) fun _ _ _ _ _ _ us hl => match us, hl with | [_, _, _], _ => rfl
  have ePut : Meth K C "put" gPut := ⟨maPut, miPut, mkPut⟩
  have FAddrs := fun_mk (st := sAddrs) mlAddrs mcAddrs mkAddrs
  have bAddrs := FAddrs.binds (ps := ["self"]) fun _ _ _ _ _ _ us hl => match us, hl with | [_], _ => rfl
  have eAddrs : Meth K C "addresses" gAddrs := ⟨maAddrs, miAddrs, mkAddrs⟩
  have FFits := fun_mk (st := sFits) mlFits mcFits mkFits
  have bFits := FFits.binds (ps := ["self", "size"]) fun _ _ _ _ _ _ us hl => match us, hl with | [_, _], _ => rfl
  have eFits : Meth K C "fits" gFits := ⟨maFits, miFits, mkFits⟩
  have FRenew := fun_mk (st := sRenew) mlRenew mcRenew mkRenew
  have bRenew := FRenew.binds (ps := ["self", "cells", "next_address"]) fun _ _ _ _ _ _ us hl => match us, hl with | [_, _, _], _ => rfl
  have eRenew : Meth K C "renew" gRenew := ⟨maRenew, miRenew, mkRenew⟩
  have TD : TxtD mg := ⟨nlen, nint, nrange, nabs⟩
  have TS : TxtS mg := ⟨nlen, nmax, ⟨_, PySem.W.mg_of X G cstL, _, rfl⟩⟩
  have TH : TxtH K mg C := ⟨nsorted, ndict, nsum, nlist, ⟨pg, hd, po, sa⟩, nR1, nU1, nC1, nN1⟩
  have TC : TxtC mg := ⟨ntuple, nrange⟩
  have TA : TxtA mg := ⟨nsorted, nsum⟩
  have TR : TxtR mg := ⟨nlen, nrange⟩
  have TL : TxtL mg := ⟨nlen, nmin, nrange⟩
  have Csize := c_size (P := l.prog) (w := w) (base := base) TS FSize bSize mSize
  have Clsize := c_lsize (P := l.prog) (w := w) (base := base) TS FLSize bLSize mLSize
  have Cdraws := c_draws (P := l.prog) (w := w) (base := base) TD FDraws bDraws mDraws
  have Cnext := c_next (P := l.prog) (w := w) (base := base) TD FNext bNext mNext
  have Clcell := c_lcell (P := l.prog) (w := w) (base := base) TC Cnext FLCell bLCell mLCell
  have Cinit := c_init (P := l.prog) (w := w) (base := base) TH ⟨mk, maInit, miInit, kc⟩ (PySem.W.mg_of X G aCl) FInit bInit
  have Cmake := c_make (P := l.prog) (w := w) (base := base) TH Csize eMake FMake bMake
  have Ccell := c_cell (P := l.prog) (w := w) (base := base) TH eCell FCell bCell
  have Cput := c_put (P := l.prog) (w := w) (base := base) TH Csize ePut FPut bPut
  have Caddrs := c_addrs (P := l.prog) (w := w) (base := base) TH eAddrs FAddrs bAddrs
  have Cfits := c_fits (P := l.prog) (w := w) (base := base) TH eFits FFits bFits
  have Crenew := c_renew (P := l.prog) (w := w) (base := base) TH Csize eRenew FRenew bRenew
  have Cagrees := c_agrees (P := l.prog) (w := w) (base := base) TA TH Clsize Caddrs Ccell Cfits FAgrees bAgrees mAgrees
  have Crenewed := c_renewed (P := l.prog) (w := w) (base := base) TR TH Cnext Crenew FRenewed bRenewed mRenewed
  exact c_law TL TH Cdraws Cnext Clcell Csize Clsize Cinit Cmake Cput Caddrs Crenewed Cagrees FLaw
theorem walk {l : PySem.W.OpenLaw} {q : Program} {loose : List Str} {XP : (Str → Option Value) → Heap → Prop} {YP : World → Heap → Prop} {d : DefRec} {K : Params → PySem.W.Frag} (hn : l.most = some 63) (hdf : d.params.defaults = [])
    (hY : ∀ (w : World) (h : Heap), YP w h → (K w.params).In h)
    (F : ∀ (w : World) (mg : Str → Option Value) (fa : Addr) (h : Heap), (K w.params).In h → h.Ns mainGlobals mg → mg d.name = some (.ref fa) →
      ∃ fd : FuncData, (∀ (s : Shared) (u : Value), BindsTo s fd ⟨[u], []⟩ [("script", u)]) ∧ ∀ base : Heap, (K w.params).In base → base.Ns mainGlobals mg → FnOk l.prog w (K w.params) mg base CX0 5 fa fd ["script"] (spLaw (K w.params))) :
    PySem.W.WalkO q loose XP YP l.row.toRowW d [] (fun f vs => PySem.call f vs) :=
  L2.walk_of (n := 63) (k := 5) (x := "script") (CX := fun _ => CX0) (sp := fun w => spLaw (K w.params)) hn (by decide) hdf ⟨rfl, by decide, by decide⟩ hY F (fun _ _ a ns hl _ hS => ⟨a, ns, rfl, hS, hl, fun _ => rfl⟩) fun _ _ _ _ _ z => z
end Toy
open PySem PySem.W PyProof.Rows
set_option maxRecDepth 100000 in
set_option maxHeartbeats 0 in
theorem PySem.Challenge.cw_needonce_k65_heap_by_model_holds : PySem.Challenge.rw_needonce_k65_heap_by_model.Holds := by
  w_on; o_law; k_head; (case hw => w_witness2)
  k_fill
  refine Toy.walk (l := PySem.Challenge.rw_needonce_k65_heap_by_model) rfl rfl (fun w h Y => PySem.W.kIn_of Y) ?F
  case F =>
    intro w mg fa h KX G hmg
    refine' Toy.all_mk KX G hmg ?a0 ?l0 ?c0 ?k0 ?a1 ?l1 ?c1 ?k1 ?a2 ?l2 ?c2 ?k2 ?a3 ?l3 ?c3 ?k3 ?a4 ?l4 ?c4 ?k4 ?a5 ?l5 ?c5 ?k5 ?a6 ?l6 ?c6 ?k6 ?a7 ?l7 ?c7 ?k7 ?aCl ?pg ?hd ?po ?sa ?mk ?kc ?nR1 ?nU1 ?nC1 ?nN1 ?cstL ?maInit ?miInit ?mlInit ?mcInit ?mkInit ?maMake ?miMake ?mlMake ?mcMake ?mkMake ?maCell ?miCell ?mlCell ?mcCell ?mkCell ?maPut ?miPut ?mlPut ?mcPut ?mkPut ?maAddrs ?miAddrs ?mlAddrs ?mcAddrs ?mkAddrs ?maFits ?miFits ?mlFits ?mcFits ?mkFits ?maRenew ?miRenew ?mlRenew ?mcRenew ?mkRenew ?zlen ?zint ?zrange ?zabs ?ztuple ?zlist ?zsorted ?zmax ?zmin ?zsum ?zdict
    (case a0 => k_is)
    (case l0 => k_is)
    (case c0 => k_is)
    (case k0 => k_is)
    (case a1 => k_is)
    (case l1 => k_is)
    (case c1 => k_is)
    (case k1 => k_is)
    (case a2 => k_is)
    (case l2 => k_is)
    (case c2 => k_is)
    (case k2 => k_is)
    (case a3 => k_is)
    (case l3 => k_is)
    (case c3 => k_is)
    (case k3 => k_is)
    (case a4 => k_is)
    (case l4 => k_is)
    (case c4 => k_is)
    (case k4 => k_is)
    (case a5 => k_is)
    (case l5 => k_is)
    (case c5 => k_is)
    (case k5 => k_is)
    (case a6 => k_is)
    (case l6 => k_is)
    (case c6 => k_is)
    (case k6 => k_is)
    (case a7 => k_is)
    (case l7 => k_is)
    (case c7 => k_is)
    (case k7 => k_is)
    (case aCl => k_is)
    (case pg => k_is)
    (case hd => k_is)
    (case po => k_is)
    (case sa => k_is)
    (case mk => k_is)
    (case kc => k_is)
    (case nR1 => k_is)
    (case nU1 => k_is)
    (case nC1 => k_is)
    (case nN1 => k_is)
    (case cstL => k_is)
    (case maInit => k_is)
    (case miInit => k_is)
    (case mlInit => k_is)
    (case mcInit => k_is)
    (case mkInit => k_is)
    (case maMake => k_is)
    (case miMake => k_is)
    (case mlMake => k_is)
    (case mcMake => k_is)
    (case mkMake => k_is)
    (case maCell => k_is)
    (case miCell => k_is)
    (case mlCell => k_is)
    (case mcCell => k_is)
    (case mkCell => k_is)
    (case maPut => k_is)
    (case miPut => k_is)
    (case mlPut => k_is)
    (case mcPut => k_is)
    (case mkPut => k_is)
    (case maAddrs => k_is)
    (case miAddrs => k_is)
    (case mlAddrs => k_is)
    (case mcAddrs => k_is)
    (case mkAddrs => k_is)
    (case maFits => k_is)
    (case miFits => k_is)
    (case mlFits => k_is)
    (case mcFits => k_is)
    (case mkFits => k_is)
    (case maRenew => k_is)
    (case miRenew => k_is)
    (case mlRenew => k_is)
    (case mcRenew => k_is)
    (case mkRenew => k_is)
    (case zlen => k_is)
    (case zint => k_is)
    (case zrange => k_is)
    (case zabs => k_is)
    (case ztuple => k_is)
    (case zlist => k_is)
    (case zsorted => k_is)
    (case zmax => k_is)
    (case zmin => k_is)
    (case zsum => k_is)
    (case zdict => k_is)

