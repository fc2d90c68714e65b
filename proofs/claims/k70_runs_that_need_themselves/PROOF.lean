import PyProof.Rows.All
import Wide.All
import OpenK.AllK
import Wide.FinOn
import HandS.ForMost
import HandS.IsInst
import KE.OsScanText
import HandS.Codes
import HandS.Conv
import HandS.StrMore
import KE.KStrWords
import KE.KxText
import HandS.SortInts
import HandS.More
import PySem.Challenge.RW_needonce_k70_runs_that_need_themselves
import HandS.TupAny
import HandS.Star
import HandS.Iter
import HandS.Property
import KE.GoesMore
import KE.GoesEnum
import HandS.CallLocal
import HandS.DictComp
set_option Elab.async false
set_option maxRecDepth 100000
set_option maxHeartbeats 4000000
/-! Part A: how defs are called, the drawing of numbers from the script. -/
namespace Toy
open PySem L2
open PyProof.Rows (envOfC)
def topS (i : Nat) : Stmt := PySem.Challenge.pw_needonce_k70_runs_that_need_themselves.main.body.getD i (.Pass ⟨0, 0, 0, 0⟩)
theorem boot_min : bootBuiltins "min" = some (.builtin "min") := by decide +kernel
theorem boot_isinstance : bootBuiltins "isinstance" = some (.builtin "isinstance") := by decide +kernel
theorem boot_abs : bootBuiltins "abs" = some (.builtin "abs") := by decide +kernel
theorem boot_int : bootBuiltins "int" = some (.type "int") := by decide +kernel
theorem boot_list : bootBuiltins "list" = some (.type "list") := by decide +kernel
/-- a written row of texts: what it is -/
def tStrs (zs : List Str) : TA := fun _ H Q => Q (zs.map V.str) H
def strE : Expr → Option Str
  | .Constant (.str z) _ _ => some z
  | _ => none
theorem strE_is {e : Expr} {z : Str} (h : strE e = some z) : ∃ j pos, e = .Constant (.str z) j pos := by
  unfold strE at h
  split at h
  · cases h
    exact ⟨_, _, rfl⟩
  · cases h
/-- a written row of texts -/
theorem pa_strs {X : Cx} : ∀ {es : List Expr} {zs : List Str}, es.map strE = zs.map some → PA X es (tStrs zs)
  | [], [], _ => pa_nil
  | [], _ :: _, h => by cases h
  | _ :: _, [], h => by cases h
  | e :: es, z :: zs, h => by
    rw [List.map_cons, List.map_cons] at h
    obtain ⟨h1, h2⟩ := List.cons.inj h
    obtain ⟨j, pos, rfl⟩ := strE_is h1
    exact pa_cons pe_str (pa_strs h2)
theorem strs_read {zs : List Str} {σ : L2.St} {H : Hp} {Q : List V → Hp → Prop} (h : Q (zs.map V.str) H) : tStrs zs σ H Q := h
/-- what the proofs ask of the module's names -/
structure TxtD (mg : Str → Option Value) : Prop where
  zlen : mg "len" = none
  zint : mg "int" = none
  zrange : mg "range" = none
  zabs : mg "abs" = none
section
variable {P : Program} {w : World} {K : PySem.W.Frag} {mg : Str → Option Value} {base : Heap} 
/-- a def as one that may be called by its name -/
theorem cal_of {x : Str} {st : Stmt} {f : Addr} {fd : FuncData} {N ps : List Str} {k : Nat} {sp : Sp} (F : Fun K x x st f fd) (hm : mg x = some (.ref f)) (b : Binds K fd ps []) (S : FnScope N ps (defScope st)) (len : ∀ vs H Q E, sp vs H Q E → vs.length = ps.length)
    (hbody : ∀ (cdv : Value) (A : Around) (outer : List Env) (s : Shared) (H : Hp) (vs : List V) (Q : VK) (E : XK), Room k (A.deeper (envOfC x (defScope st) s.heap.objs.size f cdv)) → sp vs H Q E →
      ∃ t, PSs (cxOf CX0 P w K mg base N x (defScope st) f cdv A outer s H E).nox (defBody st) t ∧ t { nx := fun _ H' => Q .non H', rt := Q } (start N vs) H) : C8.Cal P w K mg base (k + 1) x sp [] :=
  ⟨f, fd, ps, [], F.ok S len hbody, hm, F.kp, b, .nil⟩
theorem same_new {H : Hp} {p : Addr} (h : H p = none) (o : HO) : Same H (upd H p o) := fun b u q => by rw [upd_ne (ne_of_none q h)]; exact q
theorem same_upd {H H' : Hp} {p : Addr} (h : H p = none) (s : Same H H') (o : HO) : Same H (upd H' p o) := fun b u q => by rw [upd_ne (ne_of_none q h)]; exact s b u q
theorem szl {n : Nat} (h : n ≤ 100000) : n < sizeLine := Nat.lt_of_le_of_lt h (by decide)
theorem at_ok {α : Type} {xs : List α} {k : Nat} (h : k < xs.length) : atI xs (0 + (k : Int)) = some xs[k] := by
  rw [Int.zero_add]
  exact atI_nat (List.getElem?_eq_getElem h)
theorem at_int {ns : List Int} {i : Int} (h0 : 0 ≤ i) (h1 : i < (ns.length : Int)) : ∃ v : Int, atI (ns.map V.int) i = some (.int v) := by
  have hk : i.toNat < ns.length := by omega
  refine ⟨ns[i.toNat], ?_⟩
  have q : atI (ns.map V.int) ((i.toNat : Nat) : Int) = some (.int ns[i.toNat]) := atI_nat (by rw [List.getElem?_map, List.getElem?_eq_getElem hk] <;> rfl)
  rw [show ((i.toNat : Nat) : Int) = i by omega] at q
  exact q

/-! ### the draws of a script -/
def dk2 (r : Addr) (i : Int) : List (Key × V) := [(Sum.inr "draws", .ref r), (Sum.inr "at", .int i)]
theorem nk_da : ¬ (Sum.inr ("draws" : Str) : Key) = Sum.inr ("at" : Str) := by decide +kernel
theorem dk_draws (r : Addr) (i : Int) : valV (dk2 r i) (Sum.inr "draws" : Key) = some (.ref r) := valV_pos rfl
theorem dk_at (r : Addr) (i : Int) : valV (dk2 r i) (Sum.inr "at" : Key) = some (.int i) := (valV_neg nk_da).trans (valV_pos rfl)
theorem dk_put (r : Addr) (i j : Int) : putK (dk2 r i) (Sum.inr "at" : Key) (.int j) = dk2 r j := by
  have h1 : ¬ ("draws" : Str) = "at" := by decide +kernel
  simp [putK, dk2, h1]
theorem dk_merge (r : Addr) : mergeK [] [(Sum.inr "draws", .ref r), (Sum.inr "at", .int 0)] = dk2 r 0 := by
  have h1 : ¬ ("draws" : Str) = "at" := by decide +kernel
  simp [mergeK, putK, dk2, h1]
/-- a reader of draws stands at p -/
def DrawsAt (H : Hp) (p r : Addr) : Prop := ∃ (row : List Int) (i : Nat), H p = some (.dK (dk2 r (i : Int))) ∧ H r = some (.lst (row.map V.int))
theorem DrawsAt.same {H H' : Hp} {p r : Addr} (d : DrawsAt H p r) (s : Same H H') : DrawsAt H' p r := by
  obtain ⟨row, i, h1, h2⟩ := d
  exact ⟨row, i, s _ _ h1, s _ _ h2⟩
theorem DrawsAt.fresh {H : Hp} {p r x : Addr} (d : DrawsAt H p r) (hx : H x = none) : x ≠ p ∧ x ≠ r := by
  obtain ⟨row, i, h1, h2⟩ := d
  exact ⟨fun e => (by rw [e, h1] at hx; cases hx), fun e => (by rw [e, h2] at hx; cases hx)⟩
theorem DrawsAt.off {H : Hp} {p r x : Addr} (d : DrawsAt H p r) (h1 : x ≠ p) (h2 : x ≠ r) (o : HO) : DrawsAt (upd H x o) p r := by
  obtain ⟨row, i, g1, g2⟩ := d
  exact ⟨row, i, by rw [upd_ne h1.symm]; exact g1, by rw [upd_ne h2.symm]; exact g2⟩
/-- all but p stays -/
def Keep (p : Addr) (H H' : Hp) : Prop := ∀ b o, b ≠ p → H b = some o → H' b = some o
abbrev sNext : Stmt := topS 63
theorem scNext : FnScope ["w", "many"] ["w", "many"] (defScope sNext) := ⟨rfl, rfl, rfl, by decide +kernel, rfl, by decide +kernel, by decide +kernel⟩
/-- some number below m; the reader moves on -/
def spNext : Sp := fun vs H Q _ => ∃ (p r : Addr) (m : Int), vs = [.ref p, .int m] ∧ 0 < m ∧ DrawsAt H p r ∧ ∀ (n : Int) (H' : Hp), 0 ≤ n → n < m → Keep p H H' → DrawsAt H' p r → Q (.int n) H'
theorem c_next {f : Addr} {fd : FuncData} (T : TxtD mg) (F : Fun K "_law_next" "_law_next" sNext f fd) (b : Binds K fd ["w", "many"] []) (hm : mg "_law_next" = some (.ref f)) : C8.Cal P w K mg base 2 "_law_next" spNext [] := by
  refine cal_of F hm b scNext (fun vs H Q E h => ?_) (fun cdv A outer s H vs Q E hr h => ?_)
  · obtain ⟨p, r, m, rfl, _⟩ := h
    rfl
  obtain ⟨p, r, m, rfl, hm0, ⟨row, i, hp, hrow⟩, q⟩ := h
  have hu := hu_of hr
  have npr : r ≠ p := ne_of hrow hp (by intro z; cases z)
  refine ⟨_, (pss_cons (ps_daug hu (pv 0) pe_str pe_int ip_add (fun _ _ _ => rfl))
    (pss_cons (ps_if (pt_cmpR op_gt (pe_dget hu (pv 0) pe_str (fun _ _ => rfl)) (pe_callB call_len_seq rfl T.zlen PySem.boot_len (pa_cons (pe_dget hu (pv 0) pe_str (fun _ _ => rfl)) pa_nil)) (nomark _))
      (pss_one (ps_ret pe_int))
      pss_nil)
    (pss_one (ps_ret (pe_op op_mod (pe_callTy call_int1 rfl T.zint boot_int (pa_cons (pe_ix ix_list (pe_dget hu (pv 0) pe_str (fun _ _ => rfl)) (pe_op op_sub (pe_dget hu (pv 0) pe_str (fun _ _ => rfl)) pe_int) (fun _ _ => rfl)) pa_nil)) (pv 1)))))), ?_⟩
  refine ⟨_, rfl, p, _, rfl, (dk_at r i ▸ DGet.k (k := Sum.inr "at") hp), ?_⟩
  refine ⟨_, _, rfl, rfl, _, DPut.k (k := Sum.inr "at") hp (by show 2 < sizeLine; decide), ?_⟩
  rw [dk_put]
  have hp2 : upd H p (.dK (dk2 r ((i : Int) + 1))) p = some (.dK (dk2 r ((i : Int) + 1))) := upd_same
  have hr2 : upd H p (.dK (dk2 r ((i : Int) + 1))) r = some (.lst (row.map V.int)) := by rw [upd_ne npr]; exact hrow
  have fin : ∀ n : Int, 0 ≤ n → n < m → Q (.int n) (upd H p (.dK (dk2 r ((i : Int) + 1)))) := fun n h0 h1 =>
    q n _ h0 h1 (fun b o hb e => by rw [upd_ne hb]; exact e) ⟨row, i + 1, by rw [upd_same]; rfl, hr2⟩
  refine ⟨_, rfl, p, _, rfl, (dk_at r _ ▸ DGet.k (k := Sum.inr "at") hp2), _, rfl, p, _, rfl, (dk_draws r _ ▸ DGet.k (k := Sum.inr "draws") hp2), r, _, rfl, .inl (SqL.of hr2), _, _, rfl, rfl, _, rfl, ?_⟩
  refine ite2 (fun c => ?_) (fun c => ?_)
  · exact fin 0 (by omega) hm0
  · have c' : ¬ (i : Int) + 1 > (((row.map V.int).length : Nat) : Int) := fun z => c (decide_eq_true z)
    rw [List.length_map] at c'
    obtain ⟨v, hv⟩ := at_int (ns := row) (i := (i : Int) + 1 - 1) (by omega) (by omega)
    refine ⟨_, rfl, p, _, rfl, (dk_draws r _ ▸ DGet.k (k := Sum.inr "draws") hp2), _, rfl, p, _, rfl, (dk_at r _ ▸ DGet.k (k := Sum.inr "at") hp2), _, _, rfl, rfl, r, _, _, _, rfl, rfl, SqL.of hr2, hv, .inl ⟨_, rfl, ?_⟩⟩
    refine ⟨_, rfl, _, _, rfl, rfl, hm0, ?_⟩
    exact fin _ (Int.emod_nonneg _ (by omega)) (Int.emod_lt_of_pos _ hm0)
abbrev sDraws : Stmt := topS 62
theorem scDraws : FnScope ["script", "many", "draws", "mixed", "k", "cell", "rest", "turn"] ["script", "many"] (defScope sDraws) := ⟨rfl, rfl, rfl, by decide +kernel, rfl, by decide +kernel, by decide +kernel⟩
/-- some row of whole numbers -/
def spDraws (K : PySem.W.Frag) : Sp := fun vs H Q _ => ∃ (a : Addr) (ns : List Int) (m : Nat), vs = [.ref a, .int (m : Int)] ∧ SqL K H a (ns.map V.int) ∧ ns.length ≤ 63 ∧ m ≤ 1000 ∧ ∀ (r : Addr) (row : List Int) (H' : Hp), H r = none → Same H H' → H' r = some (.lst (row.map V.int)) → Q (.ref r) H'
theorem cut_ints (row : List Int) (lo hi : Option Int) : ∃ row' : List Int, cutV (row.map V.int) lo hi = row'.map V.int := by
  unfold cutV
  simp only [← List.map_drop, ← List.map_take]
  exact ⟨_, rfl⟩
theorem c_draws {f : Addr} {fd : FuncData} (T : TxtD mg) (F : Fun K "_law_draws" "_law_draws" sDraws f fd) (b : Binds K fd ["script", "many"] []) (hm : mg "_law_draws" = some (.ref f)) : C8.Cal P w K mg base 1 "_law_draws" (spDraws K) [] := by
  refine cal_of F hm b scDraws (fun vs H Q E h => ?_) (fun cdv A outer s H vs Q E hr h => ?_)
  · obtain ⟨a, ns, m, rfl, _⟩ := h
    rfl
  obtain ⟨a, ns, m, rfl, hS, h63, hm1, q⟩ := h
  refine ⟨_, (pss_cons (ps_set (i := 2) scDraws.nd rfl (Or.inl rfl) (pe_lst pa_nil))
    (pss_cons (ps_set (i := 3) scDraws.nd rfl (Or.inl rfl) pe_int)
    (pss_cons (ps_for PassesOwn.never rfl (pi_range1 rfl T.zrange (pa_cons (pe_callB call_len_seq rfl T.zlen PySem.boot_len (pa_cons (pv 0) pa_nil)) pa_nil)) (pg_name (i := 4) scDraws.nd rfl (Or.inl rfl))
      (pss_cons (ps_set (i := 5) scDraws.nd rfl (Or.inl rfl) (pe_callB call_abs rfl T.zabs boot_abs (pa_cons (pe_callTy call_int1 rfl T.zint boot_int (pa_cons (pe_ix ix_list (pv 0) (pv 4) (fun _ _ => rfl)) pa_nil)) pa_nil)))
    (pss_cons (ps_set (i := 3) scDraws.nd rfl (Or.inl rfl) (pe_op op_mod (pe_callTy call_int1 rfl T.zint boot_int (pa_cons (pe_op op_add (pe_op op_add (pe_op op_mul (pv 3) pe_int) (pe_op op_mod (pv 5) pe_int)) (pv 4)) pa_nil)) pe_int))
    (pss_cons (ps_set (i := 6) scDraws.nd rfl (Or.inl rfl) pe_int)
    (C8.pss_cut (ps_if (pt_cmpR op_ge (pv 5) (pe_op op_pow pe_int pe_int) (nomark _))
      (pss_one (ps_set (i := 6) scDraws.nd rfl (Or.inl rfl) (pv 5)))
      (pss_cons (ps_expr (pe_bm PySem.F.plainAttrs_list PySem.F.slot_list_append PySem.F.type_list_append mt_append (pv 2) (pa_cons (pe_op op_mod (pe_callTy call_int1 rfl T.zint boot_int (pa_cons (pv 5) pa_nil)) pe_int) pa_nil)))
    (pss_one (ps_expr (pe_bm PySem.F.plainAttrs_list PySem.F.slot_list_append PySem.F.type_list_append mt_append (pv 2) (pa_cons (pe_op op_mod (pe_op op_mod (pe_callTy call_int1 rfl T.zint boot_int (pa_cons (pe_op op_add (pe_op op_mul (pv 3) pe_int) pe_int) pa_nil)) pe_int) pe_int) pa_nil))))))
    (pss_one (ps_for PassesOwn.never rfl (pi_range1 rfl T.zrange (pa_cons pe_int pa_nil)) (pg_name (i := 7) scDraws.nd rfl (Or.inl rfl))
      (pss_one (ps_if (pt_cmpR op_gt (pv 6) pe_int (nomark _))
      (pss_cons (ps_expr (pe_bm PySem.F.plainAttrs_list PySem.F.slot_list_append PySem.F.type_list_append mt_append (pv 2) (pa_cons (pe_op op_mod (pe_callTy call_int1 rfl T.zint boot_int (pa_cons (pv 6) pa_nil)) pe_int) pa_nil)))
    (pss_one (ps_set (i := 6) scDraws.nd rfl (Or.inl rfl) (pe_op op_fdiv (pv 6) pe_int))))
      pss_nil)))))))))
    (pss_cons (ps_for PassesOwn.never rfl (pi_range1 rfl T.zrange (pa_cons (pv 1) pa_nil)) (pg_name (i := 4) scDraws.nd rfl (Or.inl rfl))
      (pss_cons (ps_set (i := 3) scDraws.nd rfl (Or.inl rfl) (pe_op op_mod (pe_callTy call_int1 rfl T.zint boot_int (pa_cons (pe_op op_add (pe_op op_add (pe_op op_mul (pv 3) pe_int) (pv 4)) pe_int) pa_nil)) pe_int))
    (pss_one (ps_expr (pe_bm PySem.F.plainAttrs_list PySem.F.slot_list_append PySem.F.type_list_append mt_append (pv 2) (pa_cons (pe_op op_mod (pe_callTy call_int1 rfl T.zint boot_int (pa_cons (pv 3) pa_nil)) pe_int) pa_nil))))))
    (pss_one (ps_ret (pe_slice sl_list (pv 2) po_none (po_some (pv 1))))))))), ?_⟩
  refine ⟨(by show 0 ≤ sizeLine; decide), fun r hr0 => ?_⟩
  refine ⟨_, rfl, a, _, rfl, .inl ((same_new hr0 _).seq hS), _, rfl, ?_, ?_, for_range
    (fun (k : Nat) σ H2 => ∃ (kk c t x : Option V) (mx : Int) (row : List Int), σ = [some (.ref a), some (.int (m : Int)), some (.ref r), some (.int mx), kk, c, t, x] ∧ Same H H2 ∧ H2 r = some (.lst (row.map V.int)) ∧ row.length ≤ 62 * k)
    ⟨none, none, none, none, 7, [], rfl, same_new hr0 _, upd_same, by simp⟩ ?_ ?_⟩
  · omega
  · rw [List.length_map]
    omega
  · rintro k σ H2 hk ⟨kk, c, t, x, mx, row, rfl, s2, hrow, hl⟩
    have hk' : (k : Int) < (ns.length : Int) := by
      rw [List.length_map] at hk
      omega
    obtain ⟨v, hv⟩ := at_int (ns := ns) (i := 0 + (k : Int)) (by omega) (by omega)
    refine ⟨_, rfl, _, rfl, a, _, _, _, rfl, rfl, s2.seq hS, hv, .inl ⟨_, rfl, _, rfl, ?_⟩⟩
    refine ⟨_, rfl, _, _, rfl, rfl, .inr (by decide), _, rfl, _, _, rfl, rfl, (show (0 : Int) < 1000003 by decide), _, _, rfl, rfl, _, rfl, _, _, rfl, rfl, .inl ⟨_, rfl, _, _, rfl, rfl, (show (0 : Int) < 65537 by decide), ?_⟩⟩
    refine ⟨fun σ H3 => ∃ (c : Option V) (mx x : Int) (t : Option V) (row : List Int), σ = [some (.ref a), some (.int (m : Int)), some (.ref r), some (.int mx), some (.int (0 + (k : Int))), c, some (.int x), t] ∧ Same H H3 ∧ H3 r = some (.lst (row.map V.int)) ∧ row.length ≤ 62 * k + 2, ?_, ?_⟩
    · refine ⟨_, rfl, _, _, rfl, rfl, ⟨by decide, by decide, by decide⟩, _, _, rfl, rfl, _, rfl, ?_⟩
      refine ite2 (fun _ => ?_) (fun _ => ?_)
      · exact ⟨_, rfl, _, _, _, _, row, rfl, s2, hrow, by omega⟩
      · refine ⟨_, rfl, .inl ⟨rfl, _, SqL.of hrow⟩, _, rfl, .inl ⟨_, rfl, _, _, rfl, rfl, (show (0 : Int) < 997 by decide), r, _, _, rfl, rfl, hrow, szl (by rw [List.length_map]; omega), ?_⟩⟩
        have e3 : ∀ z : Int, upd H2 r (.lst (row.map V.int ++ [.int z])) r = some (.lst ((row ++ [z]).map V.int)) := fun z => by rw [upd_same, List.map_append]; rfl
        have s3 : ∀ z : Int, Same H (upd H2 r (.lst (row.map V.int ++ [.int z]))) := fun z => same_upd hr0 s2 _
        refine ⟨_, rfl, .inl ⟨rfl, _, SqL.of (e3 _)⟩, _, rfl, _, _, rfl, rfl, .inr (by decide), _, _, rfl, rfl, .inl ⟨_, rfl, _, _, rfl, rfl, (show (0 : Int) < 65521 by decide), _, _, rfl, rfl, (show (0 : Int) < 997 by decide), r, _, _, rfl, rfl, e3 _, szl (by rw [List.length_map, List.length_append]; show _ + 1 ≤ _; omega), ?_⟩⟩
        refine ⟨_, _, _, _, row ++ [_] ++ [_], rfl, same_upd hr0 (s3 _) _, by rw [upd_same]; simp only [List.map_append]; rfl, ?_⟩
        rw [List.length_append, List.length_append]
        show row.length + 1 + 1 ≤ _
        omega
    rintro σ H3 ⟨c, mx, x, t, row, rfl, s3, hrow, hl⟩
    refine ⟨60, rfl, by decide, by decide, for_range (fun (j : Nat) σ H3 => ∃ (c : Option V) (mx x : Int) (t : Option V) (row : List Int), σ = [some (.ref a), some (.int (m : Int)), some (.ref r), some (.int mx), some (.int (0 + (k : Int))), c, some (.int x), t] ∧ Same H H3 ∧ H3 r = some (.lst (row.map V.int)) ∧ row.length ≤ 62 * k + 2 + j)
      ⟨_, _, _, _, row, rfl, s3, hrow, by omega⟩ ?_ ?_⟩
    · rintro j σ H3 hj ⟨c, mx, x, t, row, rfl, s3, hrow, hl⟩
      refine ⟨_, rfl, _, _, rfl, rfl, _, rfl, ?_⟩
      refine ite2 (fun _ => ?_) (fun _ => ?_)
      · refine ⟨_, rfl, .inl ⟨rfl, _, SqL.of hrow⟩, _, rfl, .inl ⟨_, rfl, _, _, rfl, rfl, (show (0 : Int) < 997 by decide), r, _, _, rfl, rfl, hrow, szl (by rw [List.length_map]; omega), ?_⟩⟩
        refine ⟨_, rfl, _, _, rfl, rfl, ⟨by decide, by decide⟩, ?_⟩
        refine ⟨_, _, _, _, row ++ [_], rfl, same_upd hr0 s3 _, by rw [upd_same, List.map_append]; rfl, ?_⟩
        rw [List.length_append]
        show row.length + 1 ≤ _
        omega
      · exact ⟨_, _, _, _, row, rfl, s3, hrow, by omega⟩
    · rintro σ H3 ⟨c, mx, x, t, row, rfl, s3, hrow, hl⟩
      exact ⟨_, _, _, _, _, row, rfl, s3, hrow, by omega⟩
  · rintro σ H2 ⟨kk, c, t, x, mx, row, rfl, s2, hrow, hl⟩
    rw [List.length_map] at hl
    refine ⟨_, rfl, ?_⟩
    refine ⟨_, rfl, by omega, by omega, for_range (fun (j : Nat) σ H3 => ∃ (kk c t x : Option V) (mx : Int) (row : List Int), σ = [some (.ref a), some (.int (m : Int)), some (.ref r), some (.int mx), kk, c, t, x] ∧ Same H H3 ∧ H3 r = some (.lst (row.map V.int)) ∧ row.length ≤ 4000 + j)
      ⟨_, _, _, _, _, row, rfl, s2, hrow, by omega⟩ ?_ ?_⟩
    · rintro j σ H3 hj ⟨kk, c, t, x, mx, row, rfl, s3, hrow, hl⟩
      have hj : j < ((m : Int)).toNat := hj
      refine ⟨_, rfl, _, _, rfl, rfl, .inr (by decide), _, rfl, _, _, rfl, rfl, _, _, rfl, rfl, .inl ⟨_, rfl, _, _, rfl, rfl, (show (0 : Int) < 65537 by decide), ?_⟩⟩
      refine ⟨_, rfl, .inl ⟨rfl, _, SqL.of hrow⟩, _, rfl, .inl ⟨_, rfl, _, _, rfl, rfl, (show (0 : Int) < 997 by decide), r, _, _, rfl, rfl, hrow, szl (by rw [List.length_map]; omega), ?_⟩⟩
      refine ⟨_, _, _, _, _, row ++ [_], rfl, same_upd hr0 s3 _, by rw [upd_same, List.map_append]; rfl, ?_⟩
      rw [List.length_append]
      show row.length + 1 ≤ _
      omega
    · rintro σ H3 ⟨kk, c, t, x, mx, row, rfl, s3, hrow, hl⟩
      obtain ⟨row', hc⟩ := cut_ints row none (some (m : Int))
      refine ⟨_, rfl, _, rfl, _, rfl, r, _, rfl, SqL.of hrow, fun p hp => ?_⟩
      rw [hc]
      exact q p row' _ (s3.free hp) (same_upd (s3.free hp) s3 _) upd_same
end
end Toy

set_option Elab.async false
set_option linter.all false
set_option maxRecDepth 100000
set_option maxHeartbeats 4000000
/-! Part X: own rules: enumerate of a tuple; d[key] of a written dict; a property. -/
namespace L2
open PySem PySem.Spec PyProof.Rows
set_option maxHeartbeats 1000000 in
theorem meets_enumT (t : Addr) (items : Array Value) :
    Meets (Builtin.«enumerate.__new__» ⟨[.type "enumerate", .ref t], []⟩) (fun _ R s => s.heap.IsTuple t items ∧
      R (.ok (.ret (.ref (s.heap.push { cls := .type "tuple_iterator", data := .fields #[.ref t, .int 0 0] }).objs.size)))
        { s with heap := (s.heap.push { cls := .type "tuple_iterator", data := .fields #[.ref t, .int 0 0] }).push { cls := .type "enumerate", data := .fields #[.none, .bool false, .ref s.heap.objs.size, rawInt 0, .none, .none] } }) :=
  .of_wp fun prog w A R s h => by
    obtain ⟨hp, g, d, tk, os⟩ := s; obtain ⟨h1, h⟩ := h
    have hsub := sub_enumerate
    have q1 : ∀ {A' : Around} {E : Value → Shared → Prop} {Q : Value → Shared → Prop}, Q (.ref hp.objs.size) ⟨hp.push { cls := .type "tuple_iterator", data := .fields #[.ref t, .int 0 0] }, g, d, tk, os⟩ → wpAny (model prog w) A' (pyIter (.ref t)) Q E ⟨hp, g, d, tk, os⟩ :=
      fun q => (begins_tuple t items).iter prog w _ _ ⟨hp, g, d, tk, os⟩ _ h1 q
    wp_walk using q1
    refine wpAny_stack_any fun st => wpAny_pure ?_
    split
    · rename_i c _ _ _ _ _
      cases (c == Value.type "enumerate")
      · wp_walk using q1
        exact ⟨_, rfl, h⟩
      · wp_walk using q1
        exact ⟨_, rfl, h⟩
    · wp_walk using q1
      exact ⟨_, rfl, h⟩
theorem call_enumT {prog : Program} {w : World} {A : Around} {E : Value → Shared → Prop} {s : Shared} {t : Addr} {items : Array Value} {Q : Value → Shared → Prop} (hT : s.heap.IsTuple t items)
    (h : ∀ h', IsEnum h' (s.heap.objs.size + 1) s.heap.objs.size 0 .none → h'.IsTupleIter s.heap.objs.size t 0 → h'.IsTuple t items → h'.objs.size = s.heap.objs.size + 2 →
      (∀ b o, s.heap.get? b = some o → h'.get? b = some o) → Q (.ref (s.heap.objs.size + 1)) { s with heap := h' }) :
    wpAny (model prog w) A (call (.type "enumerate") [.ref t]) Q E s := by
  refine callType_new F.called_enumerate (by decide) (F.typeCall_enumerate_1 _) (F.newCall_enumerate_1 _) (fun obj => F.args_object_init_2 obj _) F.entry_enumerate_new
    (meets_enumT t items) ⟨hT, ?_⟩
  have hz : (s.heap.push { cls := .type "tuple_iterator", data := .fields #[.ref t, .int 0 0] }).objs.size = s.heap.objs.size + 1 := Heap.size_push ..
  show _ ∧ _
  rw [hz]
  have he : IsEnum ((s.heap.push { cls := .type "tuple_iterator", data := .fields #[.ref t, .int 0 0] }).push
      { cls := .type "enumerate", data := .fields #[.none, .bool false, .ref s.heap.objs.size, rawInt 0, .none, .none] }) (s.heap.objs.size + 1) s.heap.objs.size 0 .none := by
    have := Heap.get?_push_size (s.heap.push { cls := .type "tuple_iterator", data := .fields #[.ref t, .int 0 0] })
      (o := { cls := .type "enumerate", data := .fields #[.none, .bool false, .ref s.heap.objs.size, rawInt 0, .none, .none] }) rfl
    rw [hz] at this; exact this
  refine ⟨⟨_, he, rfl⟩, h _ he ⟨_, Heap.get?_push_of_some _ (Heap.get?_push_size _ rfl), rfl, rfl⟩ ((hT.push _).push _) (by rw [Heap.size_push, hz]) fun b o x => Heap.get?_push_of_some _ (Heap.get?_push_of_some _ x)⟩
/-- the tuple at a, each item in a new pair -/
def IteT (K : PySem.W.Frag) (a : Addr) : It :=
  ⟨fun i H => ∃ (xs : List V) (x : V), SqT K H a xs ∧ xs[i]? = some x, fun i H v H' => ∃ T x, v = .ref T ∧ H T = none ∧ H' = upd H T (.tup [.int (i : Nat), x]) ∧ ∀ xs, SqT K H a xs → xs[i]? = some x, fun i H => ∃ xs : List V, SqT K H a xs ∧ xs.length ≤ i⟩
theorem turn_enumT {P : Program} {w : World} {K : PySem.W.Frag} {elts : List Expr} {kk : Nat} {tpos : Pos} (a e it : Addr) (items : Array Value) (hat : a ≠ it) (hae : a ≠ e) :
    Turn P w K (.Tuple elts kk tpos) (IteT K a) [e, it] e (fun i h => (∃ old, IsEnum h e it ((i : Nat) : Int) old) ∧ h.IsTupleIter it a i ∧ e ≠ it) where
  mem := by simp
  obj := fun i h st b hb => by
    obtain ⟨⟨old, he⟩, ⟨o, ho, hc, hd⟩, _⟩ := st
    have e' : b = e ∨ b = it := by simpa using hb
    rcases e' with z | z
    · rw [z]; exact ⟨_, he, fun v q => nomatch q⟩
    · rw [z]; exact ⟨o, ho, fun v q => by rw [hd] at q; cases q⟩
  keep := fun i h h' st k => let ⟨⟨old, he⟩, hi, hne⟩ := st; ⟨⟨old, k e (by simp) _ he⟩, hi.at fun o q => k it (by simp) o q, hne⟩
  item := by
    intro X hP hw hK hc i pins s σ H E I hf st hg
    subst hP hw hK
    obtain ⟨⟨old, he⟩, hit, hne⟩ := st
    obtain ⟨xs, x, hq, hx⟩ := hg
    obtain ⟨its, rv, p, hz⟩ := I.tuple hq
    obtain ⟨u, hu, ru⟩ := rv.get hx
    have hel : e < s.heap.objs.size := Heap.lt_size he
    have hil : it < s.heap.objs.size := by obtain ⟨_, q, _⟩ := hit; exact Heap.lt_size q
    refine wpAny_pyNext_enum_itemD (Draws.tuple (A := X.A.in1) (show X.A.in1.handled = none from I.ok.hd hc) it a hat its.toArray) he ⟨hit, p⟩ (by rw [List.size_toArray]; exact (List.getElem?_eq_some_iff.mp hu).1) hne (by simp [hne, Ne.symm hae]) fun y h' tk hy ho hst' hT hsz hk => ?_
    have ey : y = u := by
      have : its[i]? = some y := by simpa using hy
      rw [hu] at this
      exact (Option.some.inj this).symm
    subst ey
    refine ⟨_, rfl, wpAny_letOwnedTupleGo_enum (s := { s with heap := h', toks := tk + 1 }) ho fun h'' he' sb => ?_⟩
    have hT2 : h''.get? s.heap.objs.size = some { cls := .type "tuple", data := .seq #[.int i tk, y] } := (sb.2 _ (Nat.ne_of_gt hel)).trans hT
    have new : ObjOk X.prog X.w (upd H s.heap.objs.size (.tup [.int (i : Nat), x])) h'' s.heap.objs.size (.tup [.int (i : Nat), x]) :=
      ⟨by show 2 ≤ sizeLine; decide, [.int i tk, y], .cons ⟨_, rfl⟩ (.cons ru .nil), ⟨_, hT2, rfl, _, rfl⟩⟩
    have I1 : Inv X pins σ (upd H s.heap.objs.size (.tup [.int (i : Nat), x])) { s with heap := h'', toks := tk + 1 } :=
      I.turnedNew (ch := [e, it]) (fun b ob hb q => (sb.2 b (fun z => hb (by simp [z]))).trans (hk b ob (fun z => hb (by simp [z])) (fun z => hb (by simp [z])) q)) hf (Nat.le_refl _) new
    refine ⟨.ref s.heap.objs.size, _, I1, rfl, ⟨_, x, rfl, I.hok.fresh (Nat.le_refl _), rfl, fun ys hy => by rw [I.tuple_inj hy hq]; exact hx⟩, ⟨⟨y, ?_⟩, hst'.1.at fun o q => (sb.2 it (Ne.symm hne)).trans q, hne⟩, fun b hb => ?_⟩
    · have e1 : ((i + 1 : Nat) : Int) = (i : Int) + 1 := by omega
      rw [e1]; exact he'
    · have hb' : b < s.heap.objs.size := by
        have e' : b = e ∨ b = it := by simpa using hb
        rcases e' with z | z
        · rw [z]; exact hel
        · rw [z]; exact hil
      rw [upd_ne (Nat.ne_of_lt hb')]
      exact (hf b hb).1
  done := by
    intro X hP hw hK hc i pins s σ H E I hf st hg
    subst hP hw hK
    obtain ⟨⟨old, he⟩, hit, hne⟩ := st
    obtain ⟨xs, hq, hx⟩ := hg
    obtain ⟨its, rv, p, hz⟩ := I.tuple hq
    obtain ⟨f0, f1, f2, f3, f4, f5⟩ := hf it (by simp)
    have hl := rv.length
    have hT : s.TypeIs (.ref e) "enumerate" := ⟨_, he, rfl⟩
    unfold pyNext
    refine wpAny_bind (wpAny_attempt (wpAny_callSpecial?_slot (name := Str.ofString "__next__") hT F.slot_enumerate_next
      (wpAny_call_entry F.slot_enumerate_next hT F.entry_enumerate_next ?_ (F.args_enumerate_next_1 _))))
    show wpAny _ _ (field (.ref e) 2 >>= _) _ _ _
    refine wpAny_bind (wpAny_field he rfl (x := .ref it) rfl ?_)
    refine wpAny_bind (wpAny_nextOf_tuple_end (I.ok.hd hc) hit p (by simp; omega) fun h' ex he' hx' => ?_)
    obtain ⟨o, ho, hcx⟩ := hx'
    refine wpAny_bind (wpAny_isInstance (T := "StopIteration") (b := true) ⟨o, ho, hcx⟩ isSubtype_stop ?_)
    exact wpAny_pure ⟨rfl, I.turned (t' := s.toks) (fun b o hb q => he' b o hb q) f0 f1 f3 f4 f5⟩
  self := fun A i s Q E st h => let ⟨⟨_, he⟩, _⟩ := st; wpAny_pyIter_enum he h
def iEnumT (K : PySem.W.Frag) (ta : TA) : TI := fun σ H R => ta σ H fun vs H1 => ∃ a xs, vs = [.ref a] ∧ SqT K H1 a xs ∧ R (IteT K a) H1
theorem pi_enumT {X : Cx} {e : Expr} {ta : TA} {p pos tpos : Pos} {elts : List Expr} {kk : Nat} (hg : Gl X "enumerate") (hm : X.mg "enumerate" = none) (ha : PA X [e] ta) (hs : starEach [e] X.env = [(false, eval e X.env)] := by rfl) :
    PI X (.Tuple elts kk tpos) (.Call (.Name "enumerate" p) [e] [] pos) (iEnumT X.K ta) := by
  refine ⟨fun pins s σ H R I h => ?_⟩
  refine Call_ (ld_blt I hg hm boot_enumerate (PyProof.Rows.callWith_type1 (thn (ha.run pos pins s σ H _ I h) fun us s1 ⟨vs, H1, I1, r1, q1⟩ => ?_) hs rfl))
  obtain ⟨a, xs, ex, hq, q⟩ := q1
  subst ex
  cases r1 with
  | cons r rr =>
    cases rr
    cases r
    obtain ⟨its, rv, p', hz⟩ := I1.tuple hq
    have hal : a < s1.heap.objs.size := by obtain ⟨_, q, _⟩ := p'; exact Heap.lt_size q
    refine call_enumT p' fun h' he hit ht' hsz hk => wpAny_pyIter_enum he ?_
    have I2 : Inv X pins σ H1 { s1 with heap := h' } := I1.kept (t' := s1.toks) hk
    refine ⟨s1.heap.objs.size + 1, [s1.heap.objs.size + 1, s1.heap.objs.size], _, _, H1, rfl, I2, turn_enumT a (s1.heap.objs.size + 1) s1.heap.objs.size its.toArray (Nat.ne_of_lt hal) (Nat.ne_of_lt (Nat.lt_succ_of_lt hal)), ⟨⟨.none, he⟩, hit, Nat.succ_ne_self _⟩, fun b hb => ?_, q⟩
    have e' : b = s1.heap.objs.size + 1 ∨ b = s1.heap.objs.size := by simpa using hb
    have hle : s1.heap.objs.size ≤ b := by
      rcases e' with z | z
      · rw [z]; exact Nat.le_add_right _ _
      · rw [z]; exact Nat.le_refl _
    exact I1.fpOk hle (I1.hok.fresh hle)
/-- a loop over it -/
theorem for_enumT {K : PySem.W.Frag} {a : Addr} {xs : List V} {g : TG} {tb : TS} {D : Ends} {σ : L2.St} {H : Hp} (Pv : Nat → L2.St → Hp → Prop) (h0 : Pv 0 σ H) (hq : ∀ i σ H, Pv i σ H → SqT K H a xs)
    (hs : ∀ (i : Nat) (x : V) (T : Addr) (σ : L2.St) (H : Hp), xs[i]? = some x → Pv i σ H → H T = none → g (.ref T) σ (upd H T (.tup [.int (i : Nat), x])) fun σ2 H2 => tb { D with nx := Pv (i + 1), ct := Pv (i + 1), bk := D.nx } σ2 H2) (hd : ∀ σ H, Pv xs.length σ H → D.nx σ H) :
    ∃ W : Nat → Nat → L2.St → Hp → Prop, (∃ m, W 0 m σ H) ∧ ∀ i m σ H, W i m σ H →
      ((IteT K a).stop i H ∧ D.nx σ H) ∨ ((IteT K a).go i H ∧ ∃ N : L2.St → Hp → Prop, (∀ σ' H', N σ' H' → ∃ m', m' < m ∧ W (i + 1) m' σ' H') ∧ ∀ v H', (IteT K a).yld i H v H' → g v σ H' fun σ2 H2 => tb { D with nx := N, ct := N, bk := D.nx } σ2 H2) := by
  refine ⟨fun i m σ H => m = xs.length - i ∧ i ≤ xs.length ∧ Pv i σ H, ⟨xs.length, rfl, Nat.zero_le _, h0⟩, ?_⟩
  rintro i m σ H ⟨rfl, hi, p⟩
  have qx := hq i σ H p
  rcases Nat.lt_or_ge i xs.length with lt | ge
  · refine .inr ⟨⟨xs, xs[i], qx, List.getElem?_eq_getElem lt⟩, Pv (i + 1), fun σ' H' p' => ⟨xs.length - (i + 1), by omega, rfl, lt, p'⟩, fun v H' hy => ?_⟩
    obtain ⟨T, x', rfl, hT, rfl, f1⟩ := hy
    exact hs i x' T σ H (f1 xs qx) p hT
  · have e : i = xs.length := by omega
    subst e
    exact .inl ⟨⟨xs, qx, Nat.le_refl _⟩, hd σ H p⟩
/-- d[key], d a dict of the module with text keys -/
theorem ix_kd {X : Cx} {d : Addr} {es : Array DictEntry} {n : Nat} (D : KDict X.K X.w d es n) :
    IxR X (fun x y H Q => ∃ (z : Str) (u0 : Value) (v0 : V), x = .ref d ∧ y = .str z ∧ PySem.W.nsIn X.K d z = some (some u0) ∧ RelV v0 u0 ∧ Q v0 H) := by
  intro value slice pins s σ H x y v u Q I rx ry h hs
  obtain ⟨z, u0, v0, rfl, rfl, e, r, q⟩ := h
  cases rx
  obtain ⟨t, rfl⟩ := ry
  exact PyProof.Rows.tail_any (kd_type D I) slot_dict_getitem.lookup (PySem.wpAny_getItem_of (PySem.strKind_is X.prog X.w z t) (PySem.W.mapOf_K (prog := X.prog) I.kIn D.at_ D.lit) (PySem.W.find_K D.at_ e) ⟨v0, H, I.tok _, r, q⟩) hs
end L2

set_option Elab.async false
set_option linter.all false
set_option maxRecDepth 100000
set_option maxHeartbeats 4000000
/-! Part B: things in plain Lean, how they stand in the heap; what a term is. -/
namespace Toy
open PySem L2
inductive Dd
  | non
  | bl (b : Bool)
  | int (i : Int)
  | str (s : Str)
  | tup (l : List Dd)
  | lst (l : List Dd)
mutual
/-- such a thing stands in the heap as v, in tuples and in lists of B -/
def Dd.At (B : Addr → Prop) (H : Hp) : Dd → V → Prop
  | .non, v => v = .non
  | .bl b, v => v = .bl b
  | .int i, v => v = .int i
  | .str s, v => v = .str s ∧ s.length ≤ 1000
  | .tup l, v => ∃ a xs, v = .ref a ∧ H a = some (.tup xs) ∧ Dd.Ats B H l xs
  | .lst l, v => ∃ a xs, v = .ref a ∧ B a ∧ H a = some (.lst xs) ∧ Dd.Ats B H l xs
def Dd.Ats (B : Addr → Prop) (H : Hp) : List Dd → List V → Prop
  | [], xs => xs = []
  | k :: l, xs => ∃ x ys, xs = x :: ys ∧ k.At B H x ∧ Dd.Ats B H l ys
end
/-- a heap in which the tuples, and the lists of B, stand -/
def Fr (B : Addr → Prop) (H H' : Hp) : Prop := (∀ a xs, H a = some (.tup xs) → H' a = some (.tup xs)) ∧ ∀ a xs, B a → H a = some (.lst xs) → H' a = some (.lst xs)
theorem Fr.refl (B : Addr → Prop) (H : Hp) : Fr B H H := ⟨fun _ _ h => h, fun _ _ _ h => h⟩
theorem Fr.trans {B : Addr → Prop} {H1 H2 H3 : Hp} (h : Fr B H1 H2) (k : Fr B H2 H3) : Fr B H1 H3 := ⟨fun a xs e => k.1 a xs (h.1 a xs e), fun a xs b e => k.2 a xs b (h.2 a xs b e)⟩
theorem fr_same {B : Addr → Prop} {H H' : Hp} (s : Same H H') : Fr B H H' := ⟨fun _ _ e => s _ _ e, fun _ _ _ e => s _ _ e⟩
theorem fr_list {B : Addr → Prop} {H : Hp} {p : Addr} {ys : List V} {o : HO} (h : H p = some (.lst ys)) (n : ¬ B p) : Fr B H (upd H p o) :=
  ⟨fun a xs e => by rw [upd_ne (fun z => by rw [z, h] at e; cases e)]; exact e, fun a xs b e => by rw [upd_ne (fun z => n (by rw [← z]; exact b))]; exact e⟩
theorem fr_dict {B : Addr → Prop} {H : Hp} {p : Addr} {kvs : List (Key × V)} {o : HO} (h : H p = some (.dK kvs)) : Fr B H (upd H p o) :=
  ⟨fun a xs e => by rw [upd_ne (fun z => by rw [z, h] at e; cases e)]; exact e, fun a xs b e => by rw [upd_ne (fun z => by rw [z, h] at e; cases e)]; exact e⟩
theorem DrawsAt.ne_tup {H : Hp} {p r a : Addr} {xs : List V} (d : DrawsAt H p r) (e : H a = some (.tup xs)) : a ≠ p := fun z => by
  obtain ⟨row, i, h1, _⟩ := d
  rw [z, h1] at e
  cases e
theorem DrawsAt.ne_list {H : Hp} {p r a : Addr} {xs : List V} (d : DrawsAt H p r) (e : H a = some (.lst xs)) : a ≠ p := fun z => by
  obtain ⟨row, i, h1, _⟩ := d
  rw [z, h1] at e
  cases e
theorem fr_keep {B : Addr → Prop} {p r : Addr} {H H' : Hp} (k : Keep p H H') (d : DrawsAt H p r) : Fr B H H' :=
  ⟨fun a xs e => k _ _ (d.ne_tup e) e, fun a xs _ e => k _ _ (d.ne_list e) e⟩
theorem sameT {H1 H2 H3 : Hp} (h : Same H1 H2) (k : Same H2 H3) : Same H1 H3 := fun a u e => k a u (h a u e)
mutual
theorem Dd.At.keep {B : Addr → Prop} {H H' : Hp} : ∀ {k : Dd} {v : V}, Fr B H H' → k.At B H v → k.At B H' v
  | .non, _, _, h => h
  | .bl _, _, _, h => h
  | .int _, _, _, h => h
  | .str _, _, _, h => h
  | .tup l, _, t, ⟨a, xs, e, h, hs⟩ => ⟨a, xs, e, t.1 _ _ h, Dd.Ats.keep t hs⟩
  | .lst l, _, t, ⟨a, xs, e, b, h, hs⟩ => ⟨a, xs, e, b, t.2 _ _ b h, Dd.Ats.keep t hs⟩
theorem Dd.Ats.keep {B : Addr → Prop} {H H' : Hp} : ∀ {l : List Dd} {xs : List V}, Fr B H H' → Dd.Ats B H l xs → Dd.Ats B H' l xs
  | [], _, _, h => h
  | k :: l, _, t, ⟨x, ys, e, h, hs⟩ => ⟨x, ys, e, Dd.At.keep t h, Dd.Ats.keep t hs⟩
end
mutual
theorem Dd.At.weak {B C : Addr → Prop} {H : Hp} (hBC : ∀ a xs, H a = some (.lst xs) → B a → C a) : ∀ {k : Dd} {v : V}, k.At B H v → k.At C H v
  | .non, _, h => h
  | .bl _, _, h => h
  | .int _, _, h => h
  | .str _, _, h => h
  | .tup l, _, ⟨a, xs, e, h, hs⟩ => ⟨a, xs, e, h, Dd.Ats.weak hBC hs⟩
  | .lst l, _, ⟨a, xs, e, b, h, hs⟩ => ⟨a, xs, e, hBC _ _ h b, h, Dd.Ats.weak hBC hs⟩
theorem Dd.Ats.weak {B C : Addr → Prop} {H : Hp} (hBC : ∀ a xs, H a = some (.lst xs) → B a → C a) : ∀ {l : List Dd} {xs : List V}, Dd.Ats B H l xs → Dd.Ats C H l xs
  | [], _, h => h
  | k :: l, _, ⟨x, ys, e, h, hs⟩ => ⟨x, ys, e, Dd.At.weak hBC h, Dd.Ats.weak hBC hs⟩
end
/-- what stands in this heap -/
def Ex (H : Hp) (a : Addr) : Prop := H a ≠ none
theorem Dd.At.here {B : Addr → Prop} {H : Hp} {k : Dd} {v : V} (h : k.At B H v) : k.At (Ex H) H v := h.weak fun a xs e _ => by unfold Ex; rw [e]; exact fun z => by cases z
theorem Dd.Ats.here {B : Addr → Prop} {H : Hp} {l : List Dd} {xs : List V} (h : Dd.Ats B H l xs) : Dd.Ats (Ex H) H l xs := h.weak fun a xs e _ => by unfold Ex; rw [e]; exact fun z => by cases z
theorem ats_len {B : Addr → Prop} {H : Hp} : ∀ {l : List Dd} {xs : List V}, Dd.Ats B H l xs → xs.length = l.length
  | [], _, h => by cases h; rfl
  | k :: l, _, ⟨x, ys, e, h, hs⟩ => by
    cases e
    show ys.length + 1 = l.length + 1
    rw [ats_len hs]
theorem ats_app {B : Addr → Prop} {H : Hp} : ∀ {l m : List Dd} {xs ys : List V}, Dd.Ats B H l xs → Dd.Ats B H m ys → Dd.Ats B H (l ++ m) (xs ++ ys)
  | [], m, xs, ys, h, k => by
    cases h
    exact k
  | t :: l, m, _, ys, ⟨x, zs, e, h, hs⟩, k => by
    cases e
    exact ⟨x, zs ++ ys, rfl, h, ats_app hs k⟩
theorem ats_one {B : Addr → Prop} {H : Hp} {k : Dd} {v : V} (h : k.At B H v) : Dd.Ats B H [k] [v] := ⟨v, [], rfl, h, rfl⟩
theorem ats_get {B : Addr → Prop} {H : Hp} : ∀ {l : List Dd} {xs : List V} {i : Nat} {x : V}, Dd.Ats B H l xs → xs[i]? = some x → ∃ k, l[i]? = some k ∧ k.At B H x
  | [], _, i, x, h, e => by cases h; simp at e
  | k :: l, _, 0, x, ⟨y, ys, e, h, hs⟩, ex => by
    cases e
    cases ex
    exact ⟨k, rfl, h⟩
  | k :: l, _, i + 1, x, ⟨y, ys, e, h, hs⟩, ex => by
    cases e
    exact ats_get (l := l) (i := i) hs ex
theorem ats_getI {B : Addr → Prop} {H : Hp} : ∀ {l : List Dd} {xs : List V} {i : Nat} {k : Dd}, Dd.Ats B H l xs → l[i]? = some k → ∃ x, xs[i]? = some x ∧ k.At B H x
  | [], _, i, x, h, e => by simp at e
  | k :: l, _, 0, x, ⟨y, ys, e, h, hs⟩, ex => by
    cases e
    cases ex
    exact ⟨y, rfl, h⟩
  | k :: l, _, i + 1, x, ⟨y, ys, e, h, hs⟩, ex => by
    cases e
    exact ats_getI (l := l) (i := i) hs ex
theorem ats_snoc {B : Addr → Prop} {H : Hp} : ∀ {l : List Dd} {k : Dd} {xs : List V}, Dd.Ats B H (l ++ [k]) xs → ∃ ys y, xs = ys ++ [y] ∧ Dd.Ats B H l ys ∧ k.At B H y
  | [], k, xs, ⟨x, ys, e, h, hs⟩ => by
    cases e
    cases (show ys = [] from hs)
    exact ⟨[], x, rfl, rfl, h⟩
  | t :: l, k, xs, ⟨x, ys, e, h, hs⟩ => by
    cases e
    obtain ⟨zs, y, e2, h2, h3⟩ := ats_snoc hs
    exact ⟨x :: zs, y, by rw [e2]; rfl, ⟨x, zs, rfl, h, h2⟩, h3⟩
theorem ats_rev {B : Addr → Prop} {H : Hp} : ∀ {l : List Dd} {xs : List V}, Dd.Ats B H l xs → Dd.Ats B H l.reverse xs.reverse
  | [], _, h => by cases h; rfl
  | k :: l, _, ⟨x, ys, e, h, hs⟩ => by
    cases e
    rw [List.reverse_cons, List.reverse_cons]
    exact ats_app (ats_rev hs) (ats_one h)
theorem tYes_if {σ : L2.St} {H : Hp} {A B : Hp → Prop} (h : A H) : tYes σ H (fun b H3 => if b = true then A H3 else B H3) := by
  show if true = true then A H else B H
  rw [if_pos rfl]
  exact h
theorem at0 (x : V) (l : List V) : atI (x :: l) 0 = some x := atI_nat (j := 0) rfl
theorem at1 (x y : V) (l : List V) : atI (x :: y :: l) 1 = some y := atI_nat (j := 1) rfl
theorem at2 (x y z : V) (l : List V) : atI (x :: y :: z :: l) 2 = some z := atI_nat (j := 2) rfl
theorem at3 (x y z u : V) (l : List V) : atI (x :: y :: z :: u :: l) 3 = some u := atI_nat (j := 3) rfl
theorem nself (v : V) : (!decide (v = v)) = false := by simp
mutual
def Dd.sz : Dd → Nat
  | .tup l => 1 + Dd.szs l
  | .lst l => 1 + Dd.szs l
  | _ => 1
def Dd.szs : List Dd → Nat
  | [] => 0
  | k :: l => k.sz + Dd.szs l
end
theorem sz_pos : ∀ k : Dd, 1 ≤ k.sz
  | .non => Nat.le_refl _
  | .bl _ => Nat.le_refl _
  | .int _ => Nat.le_refl _
  | .str _ => Nat.le_refl _
  | .tup l => Nat.le_add_right 1 _
  | .lst l => Nat.le_add_right 1 _
theorem szs_app : ∀ l m : List Dd, Dd.szs (l ++ m) = Dd.szs l + Dd.szs m
  | [], m => by simp [Dd.szs]
  | k :: l, m => by
    show k.sz + Dd.szs (l ++ m) = k.sz + Dd.szs l + Dd.szs m
    rw [szs_app l m]
    omega
theorem szs_len : ∀ l : List Dd, l.length ≤ Dd.szs l
  | [] => Nat.le_refl _
  | k :: l => by
    have h1 := sz_pos k
    have h2 := szs_len l
    show l.length + 1 ≤ k.sz + Dd.szs l
    omega
theorem szs_mem : ∀ {l : List Dd} {k : Dd}, k ∈ l → k.sz ≤ Dd.szs l
  | t :: l, k, h => by
    show k.sz ≤ t.sz + Dd.szs l
    rcases List.mem_cons.mp h with e | e
    · rw [e]; omega
    · have := szs_mem e; omega
/-! ### what a term is -/
def isName : Dd → Bool
  | .str s => decide (1 ≤ s.length) && decide (s.length ≤ 80) && s.cps.toList.all fun c => decide (33 ≤ c) && decide (c ≤ 126) && decide (c ≠ 37)
  | _ => false
def isInt : Dd → Bool
  | .int _ => true
  | _ => false
def numIn (lo hi : Int) : Dd → Bool
  | .int i => decide (lo ≤ i) && decide (i ≤ hi)
  | _ => false
def cNum : Dd → Bool := numIn (-1000000000000000) 1000000000000000
def isTup : Dd → Bool
  | .tup _ => true
  | _ => false
def isRow (n : Nat) : Dd → Bool
  | .tup l => decide (l.length = n)
  | _ => false
def areRows (n : Nat) : Dd → Bool
  | .tup l => l.all (isRow n)
  | _ => false
/-- as often as they are the first of their kind -/
def ddK : List Key → List Key → List Key
  | acc, [] => acc
  | acc, k :: ks => ddK (if (acc.any fun j => decide (j = k)) = true then acc else acc ++ [k]) ks
def distK (ks : List Key) : Bool := decide ((ddK [] ks).length = ks.length)
def keyD : Dd → Key
  | .str s => Sum.inr s
  | .int i => Sum.inl i
  | _ => Sum.inl 0
def areNames : Dd → Bool
  | .tup l => l.all isName && distK (l.map keyD)
  | _ => false
def nth (i : Nat) : Dd → Dd
  | .tup l => l.getD i .non
  | _ => .non
def tl : Dd → List Dd
  | .tup l => l
  | _ => []
def isDflt : Dd → Bool
  | .non => true
  | .tup l => decide (l.length = 2) && isName (l.getD 0 .non)
  | _ => false
def signs : List Str := ["+", "-", "*", "div", "mod", "==", "<", "<="]
def isSign : Dd → Bool
  | .str s => decide (s ∈ signs)
  | _ => false
def arg (i : Nat) (r : List Dd) : Dd := r.getD i .non
def fNum (r : List Dd) : Bool := decide (r.length = 1) && cNum (arg 0 r)
def fVar (r : List Dd) : Bool := decide (r.length = 1) && isName (arg 0 r)
def fApp (r : List Dd) : Bool := decide (r.length = 2)
def fLam (r : List Dd) : Bool := decide (r.length = 2) && isName (arg 0 r)
def fLet (r : List Dd) : Bool := decide (r.length = 2) && areRows 2 (arg 0 r) && (decide (0 < (tl (arg 0 r)).length) && areNames (.tup ((tl (arg 0 r)).map (nth 0))))
def fSeq (r : List Dd) : Bool := decide (r.length = 3) && isName (arg 0 r)
def fCon (r : List Dd) : Bool := decide (r.length = 2) && (numIn 0 1000 (arg 0 r) && isTup (arg 1 r))
def fCase (r : List Dd) : Bool := decide (r.length = 3) && areRows 3 (arg 1 r) && isDflt (arg 2 r) && (tl (arg 1 r)).all fun q => numIn 0 1000 (nth 0 q) && areNames (nth 1 q)
def fPick (r : List Dd) : Bool := decide (r.length = 3) && areRows 2 (arg 1 r) && isDflt (arg 2 r) && (((tl (arg 1 r)).map (nth 0)).all cNum && distK (((tl (arg 1 r)).map (nth 0)).map keyD))
def fPrim (r : List Dd) : Bool := decide (r.length = 3) && isSign (arg 0 r)
def fNote (r : List Dd) : Bool := decide (r.length = 2) && numIn 0 1000000000000 (arg 0 r)
def formW (w : Str) (r : List Dd) : Bool :=
  if w = "num" then fNum r else if w = "var" then fVar r else if w = "app" then fApp r else if w = "lam" then fLam r else if w = "let" then fLet r else if w = "seq" then fSeq r
  else if w = "con" then fCon r else if w = "case" then fCase r else if w = "pick" then fPick r else if w = "prim" then fPrim r else if w = "note" then fNote r else false
def formB : Dd → Bool
  | .tup (.str w :: r) => formW w r
  | _ => false
def dfltP (d : Dd) : List Dd := match d with
  | .non => []
  | d => [nth 1 d]
def lastD : Dd → Dd
  | .tup l => l.getLastD .non
  | _ => .non
def gLet (r : List Dd) : List Dd := (tl (arg 0 r)).map (nth 1) ++ [arg 1 r]
def gChoice (r : List Dd) : List Dd := arg 0 r :: ((tl (arg 1 r)).map lastD ++ dfltP (arg 2 r))
def partsW (w : Str) (r : List Dd) : List Dd :=
  if w = "app" then r else if w = "lam" then [arg 1 r] else if w = "let" then gLet r else if w = "seq" then r.drop 1
  else if w = "con" then tl (arg 1 r) else if w = "case" then gChoice r else if w = "pick" then gChoice r
  else if w = "prim" then r.drop 1 else if w = "note" then [arg 1 r] else []
def partsD : Dd → List Dd
  | .tup (.str w :: r) => partsW w r
  | _ => []
def isT : Nat → Dd → Bool
  | 0, _ => false
  | n + 1, k => formB k && (partsD k).all (isT n)
end Toy

set_option Elab.async false
set_option linter.all false
set_option maxRecDepth 100000
set_option maxHeartbeats 4000000
/-! Part C: the machine in plain Lean. -/
namespace Toy
open PySem L2
open PyProof.Rows (envOfC)
def F0 : Addr → Prop := fun _ => False
theorem at_tup {B : Addr → Prop} {H : Hp} {a : Addr} {xs : List V} {l : List Dd} (h : H a = some (.tup xs)) (hs : Dd.Ats B H l xs) : Dd.At B H (.tup l) (.ref a) := ⟨a, xs, rfl, h, hs⟩
theorem ats_cons {B : Addr → Prop} {H : Hp} {x : V} {xs : List V} {k : Dd} {l : List Dd} (h : k.At B H x) (hs : Dd.Ats B H l xs) : Dd.Ats B H (k :: l) (x :: xs) := ⟨x, xs, rfl, h, hs⟩
theorem at_int' {B : Addr → Prop} {H : Hp} {i : Int} : Dd.At B H (.int i) (.int i) := rfl
theorem at_str' {B : Addr → Prop} {H : Hp} {z : Str} (h : z.length ≤ 1000) : Dd.At B H (.str z) (.str z) := ⟨rfl, h⟩
theorem ats_nil {B : Addr → Prop} {H : Hp} : Dd.Ats B H [] [] := rfl
theorem ats_ints {B : Addr → Prop} {H : Hp} : ∀ {l : List Int}, Dd.Ats B H (l.map Dd.int) (l.map V.int)
  | [] => rfl
  | i :: l => ⟨_, _, rfl, rfl, ats_ints⟩
theorem ints_back {B : Addr → Prop} {H : Hp} : ∀ {l : List Int} {xs : List V}, Dd.Ats B H (l.map Dd.int) xs → xs = l.map V.int
  | [], _, h => h
  | i :: l, _, ⟨x, ys, e, h, hs⟩ => by
    rw [e, show x = .int i from h, ints_back hs]
    rfl
/-! ### cells, frames, what the machine does -/
def wsD (ws : List Int) : Dd := .tup (ws.map Dd.int)
inductive Cl
  | lat (b : Dd) (ws : List Int) (s : Int)
  | part (i : Int) (ws : List Int)
  | con (t : Int) (ws : List Int)
  | on (w : Int)
  | hole
def Cl.D : Cl → Dd
  | .lat b ws s => .tup [.str "later", b, wsD ws, .int s]
  | .part i ws => .tup [.str "part", .int i, wsD ws]
  | .con t ws => .tup [.str "con", .int t, wsD ws]
  | .on w => .tup [.str "on", .int w]
  | .hole => .tup [.str "hole"]
def Cl.word : Cl → Str
  | .lat _ _ _ => "later"
  | .part _ _ => "part"
  | .con _ _ => "con"
  | .on _ => "on"
  | .hole => "hole"
def sizeW (z : Str) (n : Nat) : Nat := if z = "con" ∨ z = "part" then 1 + n else if z = "later" then max 2 (1 + n) else 2
def Cl.size : Cl → Nat
  | .lat _ ws _ => max 2 (1 + ws.length)
  | .part _ ws => 1 + ws.length
  | .con _ ws => 1 + ws.length
  | .on _ => 2
  | .hole => 2
def used : List Cl → Int
  | [] => 0
  | c :: cs => (c.size : Int) + used cs
theorem used_app : ∀ a b : List Cl, used (a ++ b) = used a + used b
  | [], b => by simp [used]
  | r :: a, b => by
    show (r.size : Int) + used (a ++ b) = (r.size : Int) + used a + used b
    rw [used_app a b]
    omega
theorem used_set : ∀ {cs : List Cl} {i : Nat} {c d : Cl}, cs[i]? = some d → used (cs.set i c) = used cs + ((c.size : Int) - (d.size : Int))
  | [], i, c, d, h => by simp at h
  | r :: rs, 0, c, d, h => by
    cases h
    show (c.size : Int) + used rs = (r.size : Int) + used rs + ((c.size : Int) - (r.size : Int))
    omega
  | r :: rs, i + 1, c, d, h => by
    show (r.size : Int) + used (rs.set i c) = (r.size : Int) + used rs + ((c.size : Int) - (d.size : Int))
    rw [used_set (cs := rs) (i := i) h]
    omega
inductive Fm
  | show
  | head (w : Int)
  | upd (a : Int)
  | apply (ws : List Int)
  | ch (c : Bool) (rows : List Dd) (d : Dd) (ws : List Int)
  | seq (b : Dd) (ws : List Int)
  | right (s : Str) (o : Dd) (ws : List Int)
  | prim (s : Str) (n : Int)
def chW (c : Bool) : Str := if c = true then "case" else "pick"
def Fm.D : Fm → Dd
  | .show => .tup [.str "show"]
  | .head w => .tup [.str "head", .int w]
  | .upd a => .tup [.str "update", .int a]
  | .apply ws => .tup [.str "apply", wsD ws]
  | .ch c rows d ws => .tup [.str (chW c), .tup rows, d, wsD ws]
  | .seq b ws => .tup [.str "seq", b, wsD ws]
  | .right s o ws => .tup [.str "right", .str s, o, wsD ws]
  | .prim s n => .tup [.str "prim", .str s, .int n]
def Fm.word : Fm → Str
  | .show => "show"
  | .head _ => "head"
  | .upd _ => "update"
  | .apply _ => "apply"
  | .ch c _ _ _ => chW c
  | .seq _ _ => "seq"
  | .right _ _ _ => "right"
  | .prim _ _ => "prim"
inductive Nw
  | enter (w : Int)
  | eval (b : Dd) (ws : List Int)
  | val (w : Int)
  | fin
  | fault (s : Str)
  | loop
  | stuck
  | full
def Nw.D : Nw → Dd
  | .enter w => .tup [.str "enter", .int w]
  | .eval b ws => .tup [.str "eval", b, wsD ws]
  | .val w => .tup [.str "value", .int w]
  | .fin => .tup [.str "end"]
  | .fault s => .tup [.str "fault", .str s]
  | .loop => .tup [.str "loop"]
  | .stuck => .tup [.str "stuck"]
  | .full => .tup [.str "full"]
def Nw.word : Nw → Str
  | .enter _ => "enter"
  | .eval _ _ => "eval"
  | .val _ => "value"
  | .fin => "end"
  | .fault _ => "fault"
  | .loop => "loop"
  | .stuck => "stuck"
  | .full => "full"
def Nw.run : Nw → Bool
  | .enter _ => true
  | .eval _ _ => true
  | .val _ => true
  | _ => false
inductive Ev
  | note (i : Int)
  | shw (i : Int)
  | fin
  | fault (s : Str)
def Ev.D : Ev → Dd
  | .note i => .tup [.str "note", .int i]
  | .shw i => .tup [.str "show", .int i]
  | .fin => .tup [.str "end"]
  | .fault s => .tup [.str "fault", .str s]
/-- what the machine has, but for what it does -/
structure Mc where
  cs : List Cl
  stk : List Fm
  evs : List Ev
  ent : List Int
  ser : Int
def Mc.push (m : Mc) (f : Fm) : Mc := { m with stk := m.stk ++ [f] }
def Mc.ev (m : Mc) (e : Ev) : Mc := { m with evs := m.evs ++ [e] }
def Mc.cell (m : Mc) (c : Cl) : Mc := { m with cs := m.cs ++ [c] }
structure Mc.small (m : Mc) : Prop where
  c : m.cs.length ≤ 90000
  s : m.stk.length ≤ 90000
  e : m.evs.length ≤ 90000
  n : m.ent.length ≤ 90000
/-! ### steps -/
inductive OpS : Dd → List Int → Int → Prop
  | slot {i : Nat} {ws : List Int} {w : Int} : ws[i]? = some w → OpS (.tup [.str "slot", .int (i : Int)]) ws w
  | glob {i : Int} {ws : List Int} : OpS (.tup [.str "global", .int i]) ws (2 * i)
  | num {i : Int} {ws : List Int} : OpS (.tup [.str "number", .int i]) ws (2 * i + 1)
inductive OpsS : List Dd → List Int → List Int → Prop
  | nil {ws : List Int} : OpsS [] ws []
  | cons {o : Dd} {os : List Dd} {ws : List Int} {w : Int} {vs : List Int} : OpS o ws w → OpsS os ws vs → OpsS (o :: os) ws (w :: vs)
theorem OpsS.len {os : List Dd} {ws vs : List Int} (h : OpsS os ws vs) : vs.length = os.length := by
  induction h with
  | nil => rfl
  | cons _ _ ih => rw [List.length_cons, List.length_cons, ih]
theorem OpsS.get {os : List Dd} {ws vs : List Int} (h : OpsS os ws vs) : ∀ {i : Nat} {o : Dd}, os[i]? = some o → ∃ w, vs[i]? = some w ∧ OpS o ws w := by
  induction h with
  | nil => intro i o e; simp at e
  | cons h1 _ ih =>
    intro i o e
    cases i with
    | zero => cases e; exact ⟨_, rfl, h1⟩
    | succ i => exact ih e
def cpW (c : Bool) : Str := if c = true then "con" else "part"
def cpC (c : Bool) (i : Int) (ws : List Int) : Cl := if c = true then .con i ws else .part i ws
theorem cpC_D (c : Bool) (i : Int) (ws : List Int) : (cpC c i ws).D = .tup [.str (cpW c), .int i, wsD ws] := by cases c <;> rfl
/-- a delayed member, its cell, the next serial -/
inductive MbS : Dd → List Int → Int → Cl → Int → Prop
  | lat {os : List Dd} {b : Dd} {ws vs : List Int} {s : Int} : OpsS os ws vs → os.length ≤ 1000 → MbS (.tup [.str "later", .tup os, b]) ws s (.lat b vs s) (s + 1)
  | cp {c : Bool} {i : Int} {os : List Dd} {ws vs : List Int} {s : Int} : OpsS os ws vs → os.length ≤ 1000 → MbS (.tup [.str (cpW c), .int i, .tup os]) ws s (cpC c i vs) s
inductive MbsS : List Dd → List Int → Int → List Cl → Int → Prop
  | nil {ws : List Int} {s : Int} : MbsS [] ws s [] s
  | cons {k : Dd} {ks : List Dd} {ws : List Int} {s s' s'' : Int} {c : Cl} {cs : List Cl} : MbS k ws s c s' → MbsS ks ws s' cs s'' → MbsS (k :: ks) ws s (c :: cs) s''
theorem MbsS.len {ks : List Dd} {ws : List Int} {s s' : Int} {cs : List Cl} (h : MbsS ks ws s cs s') : cs.length = ks.length := by
  induction h with
  | nil => rfl
  | cons _ _ ih => rw [List.length_cons, List.length_cons, ih]
def lets (n k : Nat) : List Int := (List.range k).map fun i : Nat => 2 * ((n : Int) + (i : Int))
/-- the words of bodies -/
inductive Wd
  | give
  | call
  | con
  | prim
  | lt
  | seq
  | ch (c : Bool)
  | note
def Wd.str : Wd → Str
  | .give => "give"
  | .call => "call"
  | .con => "con"
  | .prim => "prim"
  | .lt => "let"
  | .seq => "seq"
  | .ch c => chW c
  | .note => "note"
inductive EvS : Wd → List Dd → List Int → Mc → Nw → Mc → Prop
  | give {o : Dd} {ws : List Int} {m : Mc} {w : Int} : OpS o ws w → EvS .give [o] ws m (.enter w) m
  | call {o : Dd} {os : List Dd} {ws vs : List Int} {m : Mc} {w : Int} : OpS o ws w → OpsS os ws vs → os.length ≤ 1000 → EvS .call [o, .tup os] ws m (.enter w) (m.push (.apply vs))
  | con {t : Int} {os : List Dd} {ws vs : List Int} {m : Mc} : OpsS os ws vs → os.length ≤ 1000 → EvS .con [.int t, .tup os] ws m (.val (2 * (m.cs.length : Int))) (m.cell (.con t vs))
  | prim {z : Str} {o o2 : Dd} {ws : List Int} {m : Mc} {w : Int} : OpS o ws w → z.length ≤ 1000 → EvS .prim [.str z, o, o2] ws m (.enter w) (m.push (.right z o2 ws))
  | lt {ms : List Dd} {b : Dd} {ws : List Int} {m : Mc} {cl : List Cl} {s' : Int} : MbsS ms (ws ++ lets m.cs.length ms.length) m.ser cl s' → ms.length ≤ 1000 → ws.length ≤ 90000 → EvS .lt [.tup ms, b] ws m (.eval b (ws ++ lets m.cs.length ms.length)) { m with cs := m.cs ++ cl, ser := s' }
  | seq {a b : Dd} {ws : List Int} {m : Mc} : EvS .seq [a, b] ws m (.eval a ws) (m.push (.seq b ws))
  | ch {c : Bool} {f d : Dd} {rows : List Dd} {ws : List Int} {m : Mc} : EvS (.ch c) [f, .tup rows, d] ws m (.eval f ws) (m.push (.ch c rows d ws))
  | note {i : Int} {b : Dd} {ws : List Int} {m : Mc} : EvS .note [.int i, b] ws m (.eval b ws) (m.ev (.note i))
inductive EnS : Int → Mc → Nw → Mc → Prop
  | odd {n : Int} {m : Mc} : EnS (2 * n + 1) m (.val (2 * n + 1)) m
  | val {n : Nat} {m : Mc} {c : Cl} : m.cs[n]? = some c → c.word = "con" ∨ c.word = "part" → EnS (2 * (n : Int)) m (.val (2 * (n : Int))) m
  | on {n : Nat} {m : Mc} {w : Int} : m.cs[n]? = some (.on w) → EnS (2 * (n : Int)) m (.enter w) m
  | hole {n : Nat} {m : Mc} : m.cs[n]? = some .hole → EnS (2 * (n : Int)) m .loop m
  | lat {n : Nat} {m : Mc} {b : Dd} {ws : List Int} {s : Int} : m.cs[n]? = some (.lat b ws s) → EnS (2 * (n : Int)) m (.eval b ws) { m with cs := m.cs.set n .hole, ent := m.ent ++ [s], stk := m.stk ++ [.upd (n : Int)] }
/-- what a value is -/
inductive Vl
  | num (n : Int)
  | cell (c : Cl)
def Vl.word : Vl → Str
  | .num _ => "number"
  | .cell c => c.word
inductive VlS : Int → Mc → Vl → Prop
  | odd {n : Int} {m : Mc} : VlS (2 * n + 1) m (.num n)
  | even {n : Nat} {m : Mc} {c : Cl} : m.cs[n]? = some c → VlS (2 * (n : Int)) m (.cell c)
def selC (t n : Int) : List Dd → Option Dd
  | [] => none
  | q :: l => match q with
    | .tup [.int i, .int c, b] => if i = t ∧ c = n then some b else selC t n l
    | _ => selC t n l
def selP (n : Int) : List Dd → Option Dd
  | [] => none
  | q :: l => match q with
    | .tup [.int i, b] => if i = n then some b else selP n l
    | _ => selP n l
def CaseRow (q : Dd) : Prop := ∃ (i c : Int) (b : Dd), q = .tup [.int i, .int c, b]
def PickRow (q : Dd) : Prop := ∃ (i : Int) (b : Dd), q = .tup [.int i, b]
inductive DfS : Dd → List Int → Int → Mc → Nw → Mc → Prop
  | non {ws : List Int} {w : Int} {m : Mc} : DfS .non ws w m (.fault "no match") (m.ev (.fault "no match"))
  | some {d : Dd} {ws : List Int} {w : Int} {m : Mc} : d ≠ .non → ws.length ≤ 90000 → DfS d ws w m (.eval d (ws ++ [w])) m
/-- what a prim gives -/
inductive Pr
  | tf (b : Bool)
  | num (i : Int)
  | fault (s : Str)
def holdsA (s : Str) (i j : Int) : Bool := if s = "==" then decide (i = j) else if s = "<" then decide (i < j) else decide (i ≤ j)
def workA (s : Str) (i j : Int) : Int := if s = "+" then i + j else if s = "-" then i - j else if s = "*" then i * j else if s = "div" then i.fdiv j else i - j * i.fdiv j
def primR (s : Str) (i j : Int) : Pr :=
  if s = "==" ∨ s = "<" ∨ s = "<=" then .tf (holdsA s i j) else if (s = "div" ∨ s = "mod") ∧ j = 0 then .fault "division by zero"
  else if -1000000000000000 ≤ workA s i j ∧ workA s i j ≤ 1000000000000000 then .num (workA s i j) else .fault "overflow"
def NumIn (i : Int) : Prop := -1000000000000000 ≤ i ∧ i ≤ 1000000000000000
def isConL : Vl → Option (Int × List Int)
  | .cell (.con t vs) => some (t, vs)
  | _ => none
/-- a value meets a frame; the frame has been taken off the stack; fs the functions -/
inductive MtS (fs : List (Int × Dd)) : Fm → Int → Mc → Nw → Mc → Prop
  | showEnd {w : Int} {m : Mc} {vs : List Int} : VlS w m (.cell (.con 0 vs)) → MtS fs .show w m .fin (m.ev .fin)
  | showCons {w a b : Int} {m : Mc} : VlS w m (.cell (.con 1 [a, b])) → MtS fs .show w m (.enter a) (m.push (.head b))
  | showBad {w t : Int} {m : Mc} {vs : List Int} : VlS w m (.cell (.con t vs)) → t ≠ 0 → (t ≠ 1 ∨ vs.length ≠ 2) → MtS fs .show w m .stuck m
  | showNo {w : Int} {m : Mc} {v : Vl} : VlS w m v → v.word ≠ "con" → MtS fs .show w m .stuck m
  | head {w r n : Int} {m : Mc} : VlS w m (.num n) → MtS fs (.head r) w m (.enter r) ((m.ev (.shw n)).push .show)
  | headNo {w r : Int} {m : Mc} {v : Vl} : VlS w m v → v.word ≠ "number" → MtS fs (.head r) w m .stuck m
  | upd {w : Int} {a : Nat} {m : Mc} {c : Cl} : m.cs[a]? = some c → MtS fs (.upd (a : Int)) w m (.val w) { m with cs := m.cs.set a (.on w) }
  | part {w ar : Int} {i : Nat} {b : Dd} {vs ws : List Int} {m : Mc} : VlS w m (.cell (.part (i : Int) vs)) → fs[i]? = some (ar, b) → ((vs ++ ws).length : Int) < ar → (vs ++ ws).length ≤ 90000 →
      MtS fs (.apply ws) w m (.val (2 * (m.cs.length : Int))) (m.cell (.part (i : Int) (vs ++ ws)))
  | full {w : Int} {ar i : Nat} {b : Dd} {vs ws : List Int} {m : Mc} : VlS w m (.cell (.part (i : Int) vs)) → fs[i]? = some ((ar : Int), b) → (vs ++ ws).length = ar → (vs ++ ws).length ≤ 90000 →
      MtS fs (.apply ws) w m (.eval b (vs ++ ws)) m
  | over {w : Int} {ar i : Nat} {b : Dd} {vs ws : List Int} {m : Mc} : VlS w m (.cell (.part (i : Int) vs)) → fs[i]? = some ((ar : Int), b) → ar < (vs ++ ws).length → (vs ++ ws).length ≤ 90000 →
      MtS fs (.apply ws) w m (.eval b ((vs ++ ws).take ar)) (m.push (.apply ((vs ++ ws).drop ar)))
  | applyNo {w : Int} {ws : List Int} {m : Mc} {v : Vl} : VlS w m v → v.word ≠ "part" → MtS fs (.apply ws) w m .stuck m
  | case {w t : Int} {rows : List Dd} {d b : Dd} {vs ws : List Int} {m : Mc} : (∀ q ∈ rows, CaseRow q) → rows.length ≤ 90000 → VlS w m (.cell (.con t vs)) → selC t (vs.length : Int) rows = some b → ws.length + vs.length ≤ 90000 →
      MtS fs (.ch true rows d ws) w m (.eval b (ws ++ vs)) m
  | caseD {w t : Int} {rows : List Dd} {d : Dd} {vs ws : List Int} {m m' : Mc} {n : Nw} : (∀ q ∈ rows, CaseRow q) → rows.length ≤ 90000 → VlS w m (.cell (.con t vs)) → selC t (vs.length : Int) rows = none → DfS d ws w m n m' →
      MtS fs (.ch true rows d ws) w m n m'
  | caseNo {w : Int} {rows : List Dd} {d : Dd} {ws : List Int} {m : Mc} {v : Vl} : VlS w m v → v.word ≠ "con" → MtS fs (.ch true rows d ws) w m .stuck m
  | pick {w k : Int} {rows : List Dd} {d b : Dd} {ws : List Int} {m : Mc} : (∀ q ∈ rows, PickRow q) → rows.length ≤ 90000 → VlS w m (.num k) → selP k rows = some b → MtS fs (.ch false rows d ws) w m (.eval b ws) m
  | pickD {w k : Int} {rows : List Dd} {d : Dd} {ws : List Int} {m m' : Mc} {n : Nw} : (∀ q ∈ rows, PickRow q) → rows.length ≤ 90000 → VlS w m (.num k) → selP k rows = none → DfS d ws w m n m' → MtS fs (.ch false rows d ws) w m n m'
  | pickNo {w : Int} {rows : List Dd} {d : Dd} {ws : List Int} {m : Mc} {v : Vl} : VlS w m v → v.word ≠ "number" → MtS fs (.ch false rows d ws) w m .stuck m
  | seq {w : Int} {b : Dd} {ws : List Int} {m : Mc} : ws.length ≤ 90000 → MtS fs (.seq b ws) w m (.eval b (ws ++ [w])) m
  | right {w n v : Int} {s : Str} {o : Dd} {ws : List Int} {m : Mc} : VlS w m (.num n) → OpS o ws v → s.length ≤ 1000 → MtS fs (.right s o ws) w m (.enter v) (m.push (.prim s n))
  | rightNo {w : Int} {s : Str} {o : Dd} {ws : List Int} {m : Mc} {v : Vl} : VlS w m v → v.word ≠ "number" → MtS fs (.right s o ws) w m .stuck m
  | primT {w i j : Int} {s : Str} {b : Bool} {m : Mc} : VlS w m (.num j) → s ∈ signs → NumIn i → NumIn j → primR s i j = .tf b → MtS fs (.prim s i) w m (.val (2 * (m.cs.length : Int))) (m.cell (.con (if b = true then 1 else 0) []))
  | primN {w i j x : Int} {s : Str} {m : Mc} : VlS w m (.num j) → s ∈ signs → NumIn i → NumIn j → primR s i j = .num x → MtS fs (.prim s i) w m (.val (2 * x + 1)) m
  | primF {w i j : Int} {s f : Str} {m : Mc} : VlS w m (.num j) → s ∈ signs → NumIn i → NumIn j → primR s i j = .fault f → f.length ≤ 1000 → MtS fs (.prim s i) w m (.fault f) (m.ev (.fault f))
  | primNo {w i : Int} {s : Str} {m : Mc} {v : Vl} : VlS w m v → v.word ≠ "number" → MtS fs (.prim s i) w m .stuck m
/-- one step -/
inductive StS (fs : List (Int × Dd)) : Nw → Mc → Nw → Mc → Prop
  | enter {w : Int} {m m' : Mc} {n : Nw} : EnS w m n m' → StS fs (.enter w) m n m'
  | eval {z : Wd} {r : List Dd} {ws : List Int} {m m' : Mc} {n : Nw} : EvS z r ws m n m' → StS fs (.eval (.tup (.str z.str :: r)) ws) m n m'
  | val {w : Int} {f : Fm} {stk : List Fm} {m m' : Mc} {n : Nw} {l : Vl} : m.stk = stk ++ [f] → VlS w m l → MtS fs f w { m with stk := stk } n m' → StS fs (.val w) m n m'
/-- the size that it needs -/
def mbSize : Dd → Int
  | .tup [.str z, a, b] => if z = "later" then (sizeW "later" (tl a).length : Int) else (sizeW z (tl b).length : Int)
  | _ => 0
def needE : Dd → Int
  | .tup (.str z :: r) => if z = "con" then 1 + ((tl (arg 1 r)).length : Int) else if z = "let" then ((tl (arg 0 r)).map mbSize).sum else 0
  | _ => 0
def ineqs : List Str := ["==", "<", "<="]
def needM (fs : List (Int × Dd)) : Fm → Vl → Int
  | .apply ws, .cell (.part i vs) => if ((vs.length + ws.length : Nat) : Int) < (fs.getD i.toNat (0, .non)).1 then 1 + ((vs.length + ws.length : Nat) : Int) else 0
  | .prim s _, .num _ => if s ∈ ineqs then 1 else 0
  | _, _ => 0
theorem sizeW_later (n : Nat) : sizeW "later" n = max 2 (1 + n) := by
  unfold sizeW
  rw [if_neg (by decide +kernel), if_pos rfl]
theorem sizeW_cp (c : Bool) (n : Nat) : sizeW (cpW c) n = 1 + n := by
  unfold sizeW
  cases c
  · exact if_pos (Or.inr rfl)
  · exact if_pos (Or.inl rfl)
theorem MbS.size {k : Dd} {ws : List Int} {s s' : Int} {c : Cl} (h : MbS k ws s c s') : (c.size : Int) = mbSize k := by
  cases h with
  | @lat os b _ vs _ h _ =>
    show ((max 2 (1 + vs.length) : Nat) : Int) = if ("later" : Str) = "later" then ((sizeW "later" os.length : Nat) : Int) else ((sizeW "later" (tl b).length : Nat) : Int)
    rw [if_pos rfl, h.len, sizeW_later]
  | @cp c i os _ vs _ h _ =>
    have e : cpW c ≠ "later" := by cases c <;> decide +kernel
    show ((cpC c i vs).size : Int) = if cpW c = "later" then ((sizeW "later" (tl (.int i)).length : Nat) : Int) else ((sizeW (cpW c) os.length : Nat) : Int)
    rw [if_neg e, ← h.len, sizeW_cp]
    cases c <;> rfl
theorem MbsS.size {ks : List Dd} {ws : List Int} {s s' : Int} {cs : List Cl} (h : MbsS ks ws s cs s') : used cs = (ks.map mbSize).sum := by
  induction h with
  | nil => rfl
  | cons h1 _ ih =>
    rw [List.map_cons, List.sum_cons, ← ih, ← h1.size]
    rfl
end Toy

set_option Elab.async false
set_option linter.all false
set_option maxRecDepth 100000
set_option maxHeartbeats 4000000
/-! Part D: how the machine stands in the heap; the class Heap. -/
namespace Toy
open PySem L2
open PyProof.Rows (envOfC)
theorem met_of {P : Program} {w : World} {K : PySem.W.Frag} {mg : Str → Option Value} {base : Heap} {C : Addr} {m qual : Str} {st : Stmt} {f : Addr} {fd : FuncData} {N ps : List Str} {k : Nat} {sp : Sp} (c : Cls K C) (me : Meth K C m f) (F : Fun K m qual st f fd) (b : Binds K fd ps []) (S : FnScope N ps (defScope st)) (len : ∀ vs H Q E, sp vs H Q E → vs.length = ps.length)
    (hbody : ∀ (cdv : Value) (A : Around) (outer : List PySem.Env) (s : Shared) (H : Hp) (vs : List V) (Q : VK) (E : XK), Room k (A.deeper (envOfC qual (defScope st) s.heap.objs.size f cdv)) → sp vs H Q E →
      ∃ t, PSs (cxOf CX0 P w K mg base N qual (defScope st) f cdv A outer s H E).nox (defBody st) t ∧ t { nx := fun _ H' => Q .non H', rt := Q } (start N vs) H) : C8.Met P w K mg base (k + 1) C m sp [] :=
  ⟨f, fd, ps, [], c, me, F.ok S len hbody, b, .nil⟩
theorem boot_tuple : bootBuiltins "tuple" = some (.type "tuple") := by decide +kernel
theorem boot_max : bootBuiltins "max" = some (.builtin "max") := by decide +kernel
theorem wne {z w : Str} (h : z ≠ w) : decide (V.str z = V.str w) = false := decide_eq_false fun e => h (V.str.inj e)
theorem wtt {z : Str} : decide (V.str z = V.str z) = true := decide_eq_true rfl
theorem inV_strs (x : Str) : ∀ l : List Str, inV (.str x) (l.map V.str) = decide (x ∈ l)
  | [] => by simp [inV]
  | y :: l => by
    have ih := inV_strs x l
    have e : inV (.str x) ((y :: l).map V.str) = (eqV (.str y) (.str x) || inV (.str x) (l.map V.str)) := by simp [inV]
    rw [e, ih]
    by_cases h : x = y
    · subst h
      simp [eqV]
    · have h' : ¬ y = x := fun z => h z.symm
      simp [eqV, h, h']
theorem same_id {H : Hp} : Same H H := fun _ _ e => e
/-! ### fields -/
def fldH (r u : Int) (d : Addr) (n : Int) : List (Str × V) := [("room", .int r), ("used", .int u), ("cells", .ref d), ("next_address", .int n)]
section
variable (r u : Int) (d : Addr) (n : Int)
theorem fldH_next : (fldH r u d n).lookup ("next_address" : Str) = some (.int n) := by rfl
theorem fldH_cells : (fldH r u d n).lookup ("cells" : Str) = some (.ref d) := by rfl
theorem fldH_used : (fldH r u d n).lookup ("used" : Str) = some (.int u) := by rfl
theorem fldH_room : (fldH r u d n).lookup ("room" : Str) = some (.int r) := by rfl
theorem fldH_put_next (m : Int) : putF "next_address" (.int m) (fldH r u d n) = fldH r u d m := by rfl
theorem fldH_put_used (v : Int) : putF "used" (.int v) (fldH r u d n) = fldH r v d n := by rfl
theorem fldH_put_cells (e : Addr) : putF "cells" (.ref e) (fldH r u d n) = fldH r u e n := by rfl
theorem fldH_len : (fldH r u d n).length < 1000 := by show 4 < 1000; decide
theorem fldH_no_make : (fldH r u d n).lookup ("make" : Str) = none := by rfl
theorem fldH_no_cell : (fldH r u d n).lookup ("cell" : Str) = none := by rfl
theorem fldH_no_put : (fldH r u d n).lookup ("put" : Str) = none := by rfl
theorem fldH_no_fits : (fldH r u d n).lookup ("fits" : Str) = none := by rfl
theorem fldH_no_renew : (fldH r u d n).lookup ("renew" : Str) = none := by rfl
theorem fldH_no_addresses : (fldH r u d n).lookup ("addresses" : Str) = none := by rfl
end
def fM (fv : V) (ho : Addr) (ser : Int) (sa : Addr) (nv : V) (ea na : Addr) (co : Int) : List (Str × V) := [("functions", fv), ("heap", .ref ho), ("next_serial", .int ser), ("stack", .ref sa), ("now", nv), ("events", .ref ea), ("entered", .ref na), ("collections", .int co)]
section
variable (fv : V) (ho : Addr) (ser : Int) (sa : Addr) (nv : V) (ea na : Addr) (co : Int)
theorem fM_functions : (fM fv ho ser sa nv ea na co).lookup ("functions" : Str) = some fv := by rfl
theorem fM_heap : (fM fv ho ser sa nv ea na co).lookup ("heap" : Str) = some (.ref ho) := by rfl
theorem fM_serial : (fM fv ho ser sa nv ea na co).lookup ("next_serial" : Str) = some (.int ser) := by rfl
theorem fM_stack : (fM fv ho ser sa nv ea na co).lookup ("stack" : Str) = some (.ref sa) := by rfl
theorem fM_now : (fM fv ho ser sa nv ea na co).lookup ("now" : Str) = some nv := by rfl
theorem fM_events : (fM fv ho ser sa nv ea na co).lookup ("events" : Str) = some (.ref ea) := by rfl
theorem fM_entered : (fM fv ho ser sa nv ea na co).lookup ("entered" : Str) = some (.ref na) := by rfl
theorem fM_collections : (fM fv ho ser sa nv ea na co).lookup ("collections" : Str) = some (.int co) := by rfl
theorem fM_put_now (v : V) : putF "now" v (fM fv ho ser sa nv ea na co) = fM fv ho ser sa v ea na co := by rfl
theorem fM_put_serial (n : Int) : putF "next_serial" (.int n) (fM fv ho ser sa nv ea na co) = fM fv ho n sa nv ea na co := by rfl
theorem fM_put_stack (a : Addr) : putF "stack" (.ref a) (fM fv ho ser sa nv ea na co) = fM fv ho ser a nv ea na co := by rfl
theorem fM_put_collections (n : Int) : putF "collections" (.int n) (fM fv ho ser sa nv ea na co) = fM fv ho ser sa nv ea na n := by rfl
theorem fM_len : (fM fv ho ser sa nv ea na co).length < 1000 := by show 8 < 1000; decide
theorem fM_no_step : (fM fv ho ser sa nv ea na co).lookup ("step" : Str) = none := by rfl
theorem fM_no_collect : (fM fv ho ser sa nv ea na co).lookup ("collect" : Str) = none := by rfl
theorem fM_no_has_room : (fM fv ho ser sa nv ea na co).lookup ("has_room" : Str) = none := by rfl
end
/-- where the machine keeps what it has -/
structure Pl where
  mo : Addr
  ho : Addr
  hd : Addr
  sa : Addr
  ea : Addr
  na : Addr
  room : Int
  fv : V
def Pl.ok (p : Pl) : Prop := p.mo ≠ p.ho ∧ p.mo ≠ p.hd ∧ p.mo ≠ p.sa ∧ p.mo ≠ p.ea ∧ p.mo ≠ p.na ∧ p.ho ≠ p.hd ∧ p.ho ≠ p.sa ∧ p.ho ≠ p.ea ∧ p.ho ≠ p.na ∧ p.hd ≠ p.sa ∧ p.hd ≠ p.ea ∧ p.hd ≠ p.na ∧ p.sa ≠ p.ea ∧ p.sa ≠ p.na ∧ p.ea ≠ p.na
/-- all but what the machine keeps stays -/
def KeepM (p : Pl) (H H' : Hp) : Prop := ∀ b u, b ≠ p.mo → b ≠ p.ho → b ≠ p.hd → b ≠ p.sa → b ≠ p.ea → b ≠ p.na → H b = some u → H' b = some u
theorem KeepM.refl {p : Pl} {H : Hp} : KeepM p H H := fun _ _ _ _ _ _ _ _ e => e
theorem KeepM.same {p : Pl} {H H' : Hp} (s : Same H H') : KeepM p H H' := fun b u _ _ _ _ _ _ e => s b u e
theorem KeepM.trans {p : Pl} {H1 H2 H3 : Hp} (h : KeepM p H1 H2) (k : KeepM p H2 H3) : KeepM p H1 H3 := fun b u n1 n2 n3 n4 n5 n6 e => k b u n1 n2 n3 n4 n5 n6 (h b u n1 n2 n3 n4 n5 n6 e)
theorem KeepM.upd {p : Pl} {H : Hp} {a : Addr} {o : HO} (h : a = p.mo ∨ a = p.ho ∨ a = p.hd ∨ a = p.sa ∨ a = p.ea ∨ a = p.na) : KeepM p H (upd H a o) := fun b u n1 n2 n3 n4 n5 n6 e => by
  rw [upd_ne (by rcases h with h | h | h | h | h | h <;> rw [h] <;> assumption)]
  exact e
/-- a dict that holds just these cells, their addresses from i on -/
def CsAt (H : Hp) : Nat → List Cl → List (Key × V) → Prop
  | _, [], kvs => kvs = []
  | i, c :: cs, kvs => ∃ v ks, kvs = (Sum.inl (i : Int), v) :: ks ∧ c.D.At F0 H v ∧ CsAt H (i + 1) cs ks
theorem CsAt.keep {H H' : Hp} (t : Fr F0 H H') : ∀ {cs : List Cl} {i : Nat} {kvs : List (Key × V)}, CsAt H i cs kvs → CsAt H' i cs kvs
  | [], _, _, h => h
  | c :: cs, _, _, ⟨v, ks, e, h, hs⟩ => ⟨v, ks, e, h.keep t, CsAt.keep t hs⟩
theorem CsAt.len {H : Hp} : ∀ {cs : List Cl} {i : Nat} {kvs : List (Key × V)}, CsAt H i cs kvs → kvs.length = cs.length
  | [], _, _, h => by cases h; rfl
  | c :: cs, _, _, ⟨v, ks, e, h, hs⟩ => by rw [e, List.length_cons, List.length_cons, CsAt.len hs]
theorem CsAt.app {H : Hp} {c : Cl} {v : V} (hv : c.D.At F0 H v) : ∀ {cs : List Cl} {i : Nat} {kvs : List (Key × V)}, CsAt H i cs kvs → CsAt H i (cs ++ [c]) (kvs ++ [(Sum.inl ((i + cs.length : Nat) : Int), v)])
  | [], _, _, h => by cases h; exact ⟨v, [], rfl, hv, rfl⟩
  | d :: cs, i, _, ⟨u, ks, e, h, hs⟩ => by
    subst e
    refine ⟨u, _, rfl, h, ?_⟩
    have := CsAt.app hv hs
    rw [show i + 1 + cs.length = i + (d :: cs).length by rw [List.length_cons]; omega] at this
    exact this
theorem CsAt.out {H : Hp} {a : Nat} : ∀ {cs : List Cl} {i : Nat} {kvs : List (Key × V)}, CsAt H i cs kvs → (a < i ∨ i + cs.length ≤ a) → valV kvs (Sum.inl (a : Int) : Key) = none
  | [], _, _, h, _ => by cases h; rfl
  | c :: cs, i, _, ⟨v, ks, e, h, hs⟩, n => by
    subst e
    rw [List.length_cons] at n
    exact (valV_neg (p := (Sum.inl (i : Int), v)) fun z => by have := Sum.inl.inj z; omega).trans (CsAt.out hs (by omega))
theorem CsAt.get {H : Hp} {a : Nat} {c : Cl} : ∀ {cs : List Cl} {i : Nat} {kvs : List (Key × V)}, CsAt H i cs kvs → cs[a]? = some c → ∃ v, valV kvs (Sum.inl ((i + a : Nat) : Int) : Key) = some v ∧ c.D.At F0 H v
  | [], _, _, _, m => by simp at m
  | d :: cs, i, _, ⟨v, ks, e, h, hs⟩, m => by
    subst e
    cases a with
    | zero =>
      cases m
      exact ⟨v, valV_pos (p := (Sum.inl (i : Int), v)) rfl, h⟩
    | succ a =>
      have m' : cs[a]? = some c := m
      obtain ⟨u, h1, h2⟩ := CsAt.get hs m'
      rw [show i + 1 + a = i + (a + 1) by omega] at h1
      exact ⟨u, (valV_neg (p := (Sum.inl (i : Int), v)) fun z => by have := Sum.inl.inj z; omega).trans h1, h2⟩
theorem putK_cons_pos {k : Key} {v u : V} {ks : List (Key × V)} (hn : valV ks k = none) : putK ((k, v) :: ks) k u = (k, u) :: ks := by
  unfold putK
  rw [if_pos (by simp)]
  rw [List.map_cons, if_pos rfl]
  congr 1
  refine (List.map_congr_left fun p hp => ?_).trans (List.map_id _)
  rw [if_neg]
  · rfl
  · intro e
    have : (ks.any fun kv => decide (kv.1 = k)) = true := List.any_eq_true.mpr ⟨p, hp, by rw [e]; exact decide_eq_true rfl⟩
    rw [valV_any, hn] at this
    cases this
theorem putK_cons_neg {j k : Key} {v u : V} {ks : List (Key × V)} (n : ¬ j = k) : putK ((j, v) :: ks) k u = (j, v) :: putK ks k u := by
  unfold putK
  have e : (((j, v) :: ks).any fun kv => decide (kv.1 = k)) = (ks.any fun kv => decide (kv.1 = k)) := by
    rw [List.any_cons, show decide (((j, v) : Key × V).1 = k) = false from decide_eq_false n, Bool.false_or]
  rw [e]
  split
  · rw [List.map_cons, if_neg (show ¬ ((j, v) : Key × V).1 = k from n)]
  · rfl
theorem CsAt.set {H : Hp} {a : Nat} {c d : Cl} {u : V} (hu : c.D.At F0 H u) : ∀ {cs : List Cl} {i : Nat} {kvs : List (Key × V)}, CsAt H i cs kvs → cs[a]? = some d → CsAt H i (cs.set a c) (putK kvs (Sum.inl ((i + a : Nat) : Int) : Key) u)
  | [], _, _, _, m => by simp at m
  | r :: cs, i, _, ⟨v, ks, e, h, hs⟩, m => by
    subst e
    cases a with
    | zero =>
      rw [show i + 0 = i from rfl, putK_cons_pos (CsAt.out hs (.inl (by omega)))]
      exact ⟨u, ks, rfl, hu, hs⟩
    | succ a =>
      have m' : cs[a]? = some d := m
      have na : ¬ (Sum.inl (i : Int) : Key) = Sum.inl ((i + (a + 1) : Nat) : Int) := fun q => by have := Sum.inl.inj q; omega
      rw [putK_cons_neg na, show i + (a + 1) = i + 1 + a by omega]
      exact ⟨v, _, rfl, h, CsAt.set hu hs m'⟩
/-! ### parts of a machine -/
def oAt (C : Addr) (H : Hp) (p : Pl) (ser : Int) (nv : V) (co : Int) : Prop := ∃ dx, H p.mo = some (.ins C dx (fM p.fv p.ho ser p.sa nv p.ea p.na co))
def hAt (C : Addr) (H : Hp) (p : Pl) (cs : List Cl) : Prop := (∃ dx, H p.ho = some (.ins C dx (fldH p.room (used cs) p.hd (cs.length : Int)))) ∧ ∃ kvs, H p.hd = some (.dK kvs) ∧ CsAt H 0 cs kvs
def rAt (H : Hp) (a : Addr) (l : List Dd) : Prop := ∃ xs, H a = some (.lst xs) ∧ Dd.Ats F0 H l xs
theorem hAt.keep {C : Addr} {H H' : Hp} {p : Pl} {cs : List Cl} (h : hAt C H p cs) (f : Fr F0 H H') (e1 : H' p.ho = H p.ho) (e2 : H' p.hd = H p.hd) : hAt C H' p cs := by
  obtain ⟨⟨dx, h1⟩, kvs, h2, h3⟩ := h
  exact ⟨⟨dx, e1.trans h1⟩, kvs, e2.trans h2, h3.keep f⟩
theorem hAt.same {C : Addr} {H H' : Hp} {p : Pl} {cs : List Cl} (h : hAt C H p cs) (s : Same H H') : hAt C H' p cs := by
  obtain ⟨⟨dx, h1⟩, kvs, h2, h3⟩ := h
  exact ⟨⟨dx, s _ _ h1⟩, kvs, s _ _ h2, h3.keep (fr_same s)⟩
theorem rAt.keep {H H' : Hp} {a : Addr} {l : List Dd} (h : rAt H a l) (f : Fr F0 H H') (e : H' a = H a) : rAt H' a l := by
  obtain ⟨xs, h1, h2⟩ := h
  exact ⟨xs, e.trans h1, h2.keep f⟩
theorem rAt.same {H H' : Hp} {a : Addr} {l : List Dd} (h : rAt H a l) (s : Same H H') : rAt H' a l := by
  obtain ⟨xs, h1, h2⟩ := h
  exact ⟨xs, s _ _ h1, h2.keep (fr_same s)⟩
/-- the machine stands there -/
structure MkAt (CM CH : Addr) (H : Hp) (p : Pl) (m : Mc) (nv : V) (co : Int) : Prop where
  ok : p.ok
  o : oAt CM H p m.ser nv co
  h : hAt CH H p m.cs
  s : rAt H p.sa (m.stk.map Fm.D)
  e : rAt H p.ea (m.evs.map Ev.D)
  n : rAt H p.na (m.ent.map Dd.int)
theorem fr_upd {H : Hp} {a : Addr} {u o : HO} (e : H a = some u) (n : ∀ xs, u ≠ .tup xs) : Fr F0 H (upd H a o) :=
  ⟨fun b xs f => by rw [upd_ne (fun z => by rw [z, e] at f; exact n xs (Option.some.inj f))]; exact f, fun b xs z _ => z.elim⟩
section
variable {CM CH : Addr} {H H' : Hp} {p : Pl} {m : Mc} {nv : V} {co : Int}
theorem MkAt.same (M : MkAt CM CH H p m nv co) (s : Same H H') : MkAt CM CH H' p m nv co := by
  obtain ⟨h1, ⟨dx, h2⟩, h3, h4, h5, h6⟩ := M
  exact ⟨h1, ⟨dx, s _ _ h2⟩, h3.same s, h4.same s, h5.same s, h6.same s⟩
theorem MkAt.fr (M : MkAt CM CH H p m nv co) (k : KeepM p H H') : Fr F0 H H' := by
  obtain ⟨h1, ⟨dx, h2⟩, ⟨⟨dy, h3⟩, kvs, h4, _⟩, ⟨xs, h5, _⟩, ⟨ys, h6, _⟩, ⟨zs, h7, _⟩⟩ := M
  refine ⟨fun a us e => k _ _ ?_ ?_ ?_ ?_ ?_ ?_ e, fun a us z _ => z.elim⟩
  · intro z; rw [z, h2] at e; cases e
  · intro z; rw [z, h3] at e; cases e
  · intro z; rw [z, h4] at e; cases e
  · intro z; rw [z, h5] at e; cases e
  · intro z; rw [z, h6] at e; cases e
  · intro z; rw [z, h7] at e; cases e
/-- a frame is put on the stack -/
theorem MkAt.push (M : MkAt CM CH H p m nv co) {xs : List V} (hx : H p.sa = some (.lst xs)) {f : Fm} {v : V} (hv : f.D.At F0 H v) : MkAt CM CH (upd H p.sa (.lst (xs ++ [v]))) p (m.push f) nv co ∧ KeepM p H (upd H p.sa (.lst (xs ++ [v]))) ∧ Fr F0 H (upd H p.sa (.lst (xs ++ [v]))) := by
  have fr := fr_upd (o := .lst (xs ++ [v])) hx fun _ z => by cases z
  obtain ⟨ok, ⟨dx, h2⟩, h3, ⟨xs', h5, h6⟩, h7, h8⟩ := M
  obtain ⟨n1, n2, n3, n4, n5, n6, n7, n8, n9, n10, n11, n12, n13, n14, n15⟩ := id ok
  rw [hx] at h5
  cases h5
  refine ⟨⟨ok, ⟨dx, by rw [upd_ne n3]; exact h2⟩, h3.keep fr (upd_ne n7) (upd_ne n10), ⟨_, upd_same, ?_⟩, h7.keep fr (upd_ne n13.symm), h8.keep fr (upd_ne n14.symm)⟩, KeepM.upd (.inr (.inr (.inr (.inl rfl)))), fr⟩
  show Dd.Ats F0 _ ((m.stk ++ [f]).map Fm.D) _
  rw [List.map_append]
  exact ats_app (h6.keep fr) (ats_one (hv.keep fr))
/-- the frame on top is taken off -/
theorem MkAt.pop {stk : List Fm} {f : Fm} (M : MkAt CM CH H p m nv co) (e : m.stk = stk ++ [f]) : ∃ ys y, H p.sa = some (.lst (ys ++ [y])) ∧ f.D.At F0 H y ∧ MkAt CM CH (upd H p.sa (.lst ys)) p { m with stk := stk } nv co ∧ KeepM p H (upd H p.sa (.lst ys)) ∧ Fr F0 H (upd H p.sa (.lst ys)) := by
  obtain ⟨ok, ⟨dx, h2⟩, h3, ⟨xs, h5, h6⟩, h7, h8⟩ := M
  obtain ⟨n1, n2, n3, n4, n5, n6, n7, n8, n9, n10, n11, n12, n13, n14, n15⟩ := id ok
  rw [e, List.map_append] at h6
  obtain ⟨ys, y, rfl, h9, h10⟩ := ats_snoc h6
  have fr := fr_upd (o := .lst ys) h5 fun _ z => by cases z
  exact ⟨ys, y, h5, h10, ⟨ok, ⟨dx, by rw [upd_ne n3]; exact h2⟩, h3.keep fr (upd_ne n7) (upd_ne n10), ⟨_, upd_same, h9.keep fr⟩, h7.keep fr (upd_ne n13.symm), h8.keep fr (upd_ne n14.symm)⟩, KeepM.upd (.inr (.inr (.inr (.inl rfl)))), fr⟩
/-- an event is told -/
theorem MkAt.tell (M : MkAt CM CH H p m nv co) {xs : List V} (hx : H p.ea = some (.lst xs)) {f : Ev} {v : V} (hv : f.D.At F0 H v) : MkAt CM CH (upd H p.ea (.lst (xs ++ [v]))) p (m.ev f) nv co ∧ KeepM p H (upd H p.ea (.lst (xs ++ [v]))) ∧ Fr F0 H (upd H p.ea (.lst (xs ++ [v]))) := by
  have fr := fr_upd (o := .lst (xs ++ [v])) hx fun _ z => by cases z
  obtain ⟨ok, ⟨dx, h2⟩, h3, h4, ⟨xs', h5, h6⟩, h8⟩ := M
  obtain ⟨n1, n2, n3, n4, n5, n6, n7, n8, n9, n10, n11, n12, n13, n14, n15⟩ := id ok
  rw [hx] at h5
  cases h5
  refine ⟨⟨ok, ⟨dx, by rw [upd_ne n4]; exact h2⟩, h3.keep fr (upd_ne n8) (upd_ne n11), h4.keep fr (upd_ne n13), ⟨_, upd_same, ?_⟩, h8.keep fr (upd_ne n15.symm)⟩, KeepM.upd (.inr (.inr (.inr (.inr (.inl rfl))))), fr⟩
  show Dd.Ats F0 _ ((m.evs ++ [f]).map Ev.D) _
  rw [List.map_append]
  exact ats_app (h6.keep fr) (ats_one (hv.keep fr))
/-- a serial is noted -/
theorem MkAt.ents (M : MkAt CM CH H p m nv co) {xs : List V} (hx : H p.na = some (.lst xs)) {i : Int} : MkAt CM CH (upd H p.na (.lst (xs ++ [.int i]))) p { m with ent := m.ent ++ [i] } nv co ∧ KeepM p H (upd H p.na (.lst (xs ++ [.int i]))) ∧ Fr F0 H (upd H p.na (.lst (xs ++ [.int i]))) := by
  have fr := fr_upd (o := .lst (xs ++ [.int i])) hx fun _ z => by cases z
  obtain ⟨ok, ⟨dx, h2⟩, h3, h4, h7, ⟨xs', h5, h6⟩⟩ := M
  obtain ⟨n1, n2, n3, n4, n5, n6, n7, n8, n9, n10, n11, n12, n13, n14, n15⟩ := id ok
  rw [hx] at h5
  cases h5
  refine ⟨⟨ok, ⟨dx, by rw [upd_ne n5]; exact h2⟩, h3.keep fr (upd_ne n9) (upd_ne n12), h4.keep fr (upd_ne n14), h7.keep fr (upd_ne n15), ⟨_, upd_same, ?_⟩⟩, KeepM.upd (.inr (.inr (.inr (.inr (.inr rfl))))), fr⟩
  show Dd.Ats F0 _ ((m.ent ++ [i]).map Dd.int) _
  rw [List.map_append]
  exact ats_app (h6.keep fr) (ats_one rfl)
/-- its own fields are put -/
theorem MkAt.own (M : MkAt CM CH H p m nv co) {dx : Addr} {fs : List (Str × V)} (ho : H p.mo = some (.ins CM dx fs)) (ser : Int) (nv' : V) (co' : Int) : MkAt CM CH (upd H p.mo (.ins CM dx (fM p.fv p.ho ser p.sa nv' p.ea p.na co'))) p { m with ser := ser } nv' co' ∧ KeepM p H (upd H p.mo (.ins CM dx (fM p.fv p.ho ser p.sa nv' p.ea p.na co'))) ∧ Fr F0 H (upd H p.mo (.ins CM dx (fM p.fv p.ho ser p.sa nv' p.ea p.na co'))) := by
  have fr := fr_upd (o := .ins CM dx (fM p.fv p.ho ser p.sa nv' p.ea p.na co')) ho fun _ z => by cases z
  obtain ⟨ok, ⟨dx', h2⟩, h3, h4, h7, h8⟩ := M
  obtain ⟨n1, n2, n3, n4, n5, n6, n7, n8, n9, n10, n11, n12, n13, n14, n15⟩ := id ok
  exact ⟨⟨ok, ⟨dx, upd_same⟩, h3.keep fr (upd_ne n1.symm) (upd_ne n2.symm), h4.keep fr (upd_ne n3.symm), h7.keep fr (upd_ne n4.symm), h8.keep fr (upd_ne n5.symm)⟩, KeepM.upd (.inl rfl), fr⟩
/-- other cells -/
theorem MkAt.cells (M : MkAt CM CH H p m nv co) {cs : List Cl} (h : hAt CH H' p cs) (k : ∀ b u, b ≠ p.ho → b ≠ p.hd → H b = some u → H' b = some u) : MkAt CM CH H' p { m with cs := cs } nv co ∧ KeepM p H H' ∧ Fr F0 H H' := by
  have km : KeepM p H H' := fun b u _ n2 n3 _ _ _ e => k b u n2 n3 e
  have fr := M.fr km
  obtain ⟨ok, ⟨dx, h2⟩, _, ⟨xs, h4, h5⟩, ⟨ys, h6, h7⟩, ⟨zs, h8, h9⟩⟩ := M
  obtain ⟨n1, n2, n3, n4, n5, n6, n7, n8, n9, n10, n11, n12, n13, n14, n15⟩ := id ok
  exact ⟨⟨ok, ⟨dx, k _ _ n1 n2 h2⟩, h, ⟨xs, k _ _ n7.symm n10.symm h4, h5.keep fr⟩, ⟨ys, k _ _ n8.symm n11.symm h6, h7.keep fr⟩, ⟨zs, k _ _ n9.symm n12.symm h8, h9.keep fr⟩⟩, km, fr⟩
end
/-! ### the class Heap -/
structure TxtS (mg : Str → Option Value) : Prop where
  zlen : mg "len" = none
  zmax : mg "max" = none
  gLEAST_SIZE_OF_DELAYED : ∃ u, mg "LEAST_SIZE_OF_DELAYED" = some u ∧ RelV (.int 2) u
structure TxtH (K : PySem.W.Frag) (C : Addr) : Prop where
  cl : Cls K C
  nR : NoAttr K C "room"
  nU : NoAttr K C "used"
  nC : NoAttr K C "cells"
  nN : NoAttr K C "next_address"
theorem max_int (n : Nat) : (if (1 : Int) + (n : Int) > 2 then (1 : Int) + (n : Int) else 2) = ((max 2 (1 + n) : Nat) : Int) := by split <;> omega
/-- what has a size: its word, and how long its row of words is -/
def SizedAt (K : PySem.W.Frag) (H : Hp) (v : V) (z : Str) (n : Nat) : Prop := ∃ t row, v = .ref t ∧ H t = some (.tup row) ∧ atI row 0 = some (.str z) ∧ (z = "later" ∨ z = "con" ∨ z = "part" → ∃ u xs, atI row 2 = some (.ref u) ∧ SqT K H u xs ∧ xs.length = n)
def Cl.wlen : Cl → Nat
  | .lat _ ws _ => ws.length
  | .part _ ws => ws.length
  | .con _ ws => ws.length
  | .on _ => 0
  | .hole => 0
theorem Cl.size_eq (c : Cl) : sizeW c.word c.wlen = c.size := by
  cases c with
  | lat b ws s => exact sizeW_later _
  | part i ws => exact sizeW_cp false _
  | con t ws => exact sizeW_cp true _
  | on w => show sizeW "on" 0 = 2; decide +kernel
  | hole => show sizeW "hole" 0 = 2; decide +kernel
theorem sized_cell {K : PySem.W.Frag} {H : Hp} {c : Cl} {v : V} (h : c.D.At F0 H v) : SizedAt K H v c.word c.wlen := by
  have n1 : ¬ (("hole" : Str) = "later" ∨ ("hole" : Str) = "con" ∨ ("hole" : Str) = "part") := by decide +kernel
  have n2 : ¬ (("on" : Str) = "later" ∨ ("on" : Str) = "con" ∨ ("on" : Str) = "part") := by decide +kernel
  cases c with
  | hole =>
    obtain ⟨a, xs, rfl, ha, x, ys, rfl, ⟨rfl, _⟩, hy⟩ := h
    exact ⟨a, _, rfl, ha, at0 _ _, fun z => absurd z n1⟩
  | on i =>
    obtain ⟨a, xs, rfl, ha, x, ys, rfl, ⟨rfl, _⟩, hy⟩ := h
    exact ⟨a, _, rfl, ha, at0 _ _, fun z => absurd z n2⟩
  | lat b ws s =>
    obtain ⟨a, xs, rfl, ha, x, ys, rfl, ⟨rfl, _⟩, y, zs, rfl, hy, z, us, rfl, ⟨u, ts, rfl, hu, hts⟩, hz⟩ := h
    exact ⟨a, _, rfl, ha, at0 _ _, fun _ => ⟨u, ts, at2 _ _ _ _, SqT.of hu, by rw [ats_len hts, List.length_map]; rfl⟩⟩
  | part i ws =>
    obtain ⟨a, xs, rfl, ha, x, ys, rfl, ⟨rfl, _⟩, y, zs, rfl, hy, z, us, rfl, ⟨u, ts, rfl, hu, hts⟩, hz⟩ := h
    exact ⟨a, _, rfl, ha, at0 _ _, fun _ => ⟨u, ts, at2 _ _ _ _, SqT.of hu, by rw [ats_len hts, List.length_map]; rfl⟩⟩
  | con t ws =>
    obtain ⟨a, xs, rfl, ha, x, ys, rfl, ⟨rfl, _⟩, y, zs, rfl, hy, z, us, rfl, ⟨u, ts, rfl, hu, hts⟩, hz⟩ := h
    exact ⟨a, _, rfl, ha, at0 _ _, fun _ => ⟨u, ts, at2 _ _ _ _, SqT.of hu, by rw [ats_len hts, List.length_map]; rfl⟩⟩
section
variable {P : Program} {w : World} {K : PySem.W.Frag} {mg : Str → Option Value} {base : Heap}
abbrev sSize : Stmt := topS 13
theorem scSize : FnScope ["cell", "word"] ["cell"] (defScope sSize) := ⟨rfl, rfl, rfl, by decide +kernel, rfl, by decide +kernel, by decide +kernel⟩
def spSize (K : PySem.W.Frag) : Sp := fun vs H Q _ => ∃ (v : V) (z : Str) (n : Nat), vs = [v] ∧ SizedAt K H v z n ∧ ∀ H', Same H H' → Q (.int (sizeW z n : Int)) H'
theorem c_size {f : Addr} {fd : FuncData} (T : TxtS mg) (F : Fun K "size_of" "size_of" sSize f fd) (b : Binds K fd ["cell"] []) (hm : mg "size_of" = some (.ref f)) : C8.Cal P w K mg base 1 "size_of" (spSize K) [] := by
  refine cal_of F hm b scSize (fun vs H Q E h => ?_) (fun cdv A outer s H vs Q E hr h => ?_)
  · obtain ⟨v, z, n, rfl, _⟩ := h
    rfl
  obtain ⟨v, z, n, rfl, ⟨t, row, rfl, ht, h0, h2⟩, q⟩ := h
  refine ⟨_, (pss_cons (ps_set (i := 1) scSize.nd rfl (Or.inl rfl) (pe_ix ix_tup (pv 0) pe_int (fun _ _ => rfl)))
    (pss_cons (ps_if (pt_cmpR op_in_seq (pv 1) (pe_tup (pa_cons pe_str (pa_cons pe_str pa_nil))) rfl)
      (pss_one (ps_ret (pe_op op_add pe_int (pe_callB call_len_seq rfl T.zlen PySem.boot_len (pa_cons (pe_ix ix_tup (pv 0) pe_int (fun _ _ => rfl)) pa_nil)))))
      pss_nil)
    (pss_cons (ps_if (pt_cmpR op_eq (pv 1) pe_str (nomark _))
      (pss_one (ps_ret (pe_callB (call_max2 rfl) rfl T.zmax boot_max (pa_cons (C8.pe_gc rfl T.gLEAST_SIZE_OF_DELAYED) (pa_cons (pe_op op_add pe_int (pe_callB call_len_seq rfl T.zlen PySem.boot_len (pa_cons (pe_ix ix_tup (pv 0) pe_int (fun _ _ => rfl)) pa_nil))) pa_nil)))))
      pss_nil)
    (pss_one (ps_ret (C8.pe_gc rfl T.gLEAST_SIZE_OF_DELAYED)))))), ?_⟩
  refine ⟨_, rfl, t, _, 0, _, rfl, rfl, SqT.of ht, h0, ?_⟩
  refine ⟨_, rfl, by show 2 ≤ sizeLine; decide, fun u hu => ?_⟩
  have s1 := same_new hu (.tup [.str "con", .str "part"])
  refine ⟨u, _, rfl, .inr (SqT.of upd_same), rfl, rfl, ?_⟩
  have ht1 := s1 _ _ ht
  have q1 := q _ s1
  have sq1 : ∀ {u' xs}, SqT K H u' xs → SqT K (upd H u (.tup [.str "con", .str "part"])) u' xs := fun h => by
    rcases h with (h | ⟨o, h⟩) | h
    · exact .inl (.inl (s1 _ _ h))
    · exact .inl (.inr ⟨o, s1 _ _ h⟩)
    · exact .inr h
  generalize upd H u (.tup [.str "con", .str "part"]) = H1 at s1 ht1 q1 sq1 ⊢
  have eI : (if false = true then !inV (V.str z) [V.str "con", V.str "part"] else inV (V.str z) [V.str "con", V.str "part"]) = decide (z = "con" ∨ z = "part") := by
    show inV (V.str z) ([("con" : Str), "part"].map V.str) = _
    rw [inV_strs]
    exact decide_eq_decide.mpr (by simp)
  rw [eI]
  unfold sizeW at q1
  refine ⟨_, rfl, ?_⟩
  by_cases h1 : z = "con" ∨ z = "part"
  · rw [decide_eq_true h1]
    rw [if_pos h1] at q1
    refine iteT ?_
    obtain ⟨u2, xs, g1, g2, rfl⟩ := h2 (.inr h1)
    refine ⟨_, rfl, t, _, 2, _, rfl, rfl, SqT.of ht1, g1, u2, xs, rfl, .inr (sq1 g2), _, _, rfl, rfl, ?_⟩
    rw [show ((1 + xs.length : Nat) : Int) = 1 + ((xs.length : Nat) : Int) by omega] at q1
    exact q1
  · rw [decide_eq_false h1]
    rw [if_neg h1] at q1
    refine iteF ?_
    refine ⟨_, rfl, rfl, _, rfl, ?_⟩
    show if decide (V.str z = V.str "later") = true then _ else _
    by_cases h3 : z = "later"
    · rw [if_pos h3] at q1
      obtain ⟨u2, xs, g1, g2, rfl⟩ := h2 (.inl h3)
      rw [show decide (V.str z = V.str "later") = true by rw [h3]; exact wtt]
      refine iteT ?_
      refine ⟨_, rfl, t, _, 2, _, rfl, rfl, SqT.of ht1, g1, u2, xs, rfl, .inr (sq1 g2), _, _, rfl, rfl, _, _, rfl, ?_⟩
      rw [← max_int] at q1
      exact q1
    · rw [if_neg h3] at q1
      rw [wne h3]
      exact iteF q1
variable {C : Addr}
def Keep2 (p : Pl) (H H' : Hp) : Prop := ∀ b u, b ≠ p.ho → b ≠ p.hd → H b = some u → H' b = some u
abbrev sMake : Stmt := inClass (topS 14) 1
theorem scMake : FnScope ["self", "cell", "address"] ["self", "cell"] (defScope sMake) := ⟨rfl, rfl, rfl, by decide +kernel, rfl, by decide +kernel, by decide +kernel⟩
def spMake (C : Addr) : Sp := fun vs H Q _ => ∃ (p : Pl) (cs : List Cl) (v : V) (c : Cl), vs = [.ref p.ho, v] ∧ hAt C H p cs ∧ p.ho ≠ p.hd ∧ c.D.At F0 H v ∧ cs.length ≤ 95000 ∧ ∀ H', Keep2 p H H' → hAt C H' p (cs ++ [c]) → Q (.int (cs.length : Int)) H'
theorem c_make {f : Addr} {fd : FuncData} (T : TxtH K C) (csize_of : C8.Cal P w K mg base 1 "size_of" (spSize K) []) (me : Meth K C "make" f) (F : Fun K "make" "Heap.make" sMake f fd) (b : Binds K fd ["self", "cell"] []) : C8.Met P w K mg base 2 C "make" (spMake C) [] := by
  refine met_of T.cl me F b scMake (fun vs H Q E h => ?_) (fun cdv A outer s H vs Q E hr h => ?_)
  · obtain ⟨p, cs, v, c, rfl, _⟩ := h
    rfl
  obtain ⟨p, cs, v, c, rfl, ⟨⟨dx, ho⟩, kvs, hd, hkv⟩, nod, hat, hl, q⟩ := h
  have hu := hu_of hr
  refine ⟨_, (pss_cons (ps_set (i := 2) scMake.nd rfl (Or.inl rfl) (pe_fld (pv 0) rfl))
    (pss_cons (ps_fldaug (pv 0) pe_int ip_add)
    (pss_cons (ps_dput hu (pe_fld (pv 0) rfl) (pv 2) (pv 1) rfl)
    (pss_cons (ps_fldaug (pv 0) (C8.pe_c csize_of hr (by decide) rfl (pa_cons (pv 1) pa_nil)) ip_add)
    (pss_one (ps_ret (pv 2))))))), ?_⟩
  refine ⟨_, rfl, p.ho, C, dx, _, .int (cs.length : Int), rfl, ho, T.cl, T.nN, fldH_next _ _ _ _, ?_⟩
  refine ⟨_, rfl, p.ho, C, dx, _, .int (cs.length : Int), rfl, ho, T.cl, T.nN, fldH_next _ _ _ _, (cs.length : Int), 1, rfl, rfl, dx, _, ho, fldH_len .., ?_⟩
  rw [fldH_put_next]
  have ho1 : upd H p.ho (.ins C dx (fldH p.room (used cs) p.hd ((cs.length : Int) + 1))) p.ho = some (.ins C dx (fldH p.room (used cs) p.hd ((cs.length : Int) + 1))) := upd_same
  have hd1 : upd H p.ho (.ins C dx (fldH p.room (used cs) p.hd ((cs.length : Int) + 1))) p.hd = some (.dK kvs) := by rw [upd_ne nod.symm]; exact hd
  have t1 : Fr F0 H (upd H p.ho (.ins C dx (fldH p.room (used cs) p.hd ((cs.length : Int) + 1)))) := fr_upd ho fun _ z => by cases z
  have k1 : Keep2 p H (upd H p.ho (.ins C dx (fldH p.room (used cs) p.hd ((cs.length : Int) + 1)))) := fun b u n1 n2 e => by rw [upd_ne n1]; exact e
  generalize upd H p.ho (.ins C dx (fldH p.room (used cs) p.hd ((cs.length : Int) + 1))) = H1 at ho1 hd1 t1 k1 ⊢
  have hkl := hkv.len
  refine ⟨_, rfl, _, rfl, p.ho, C, dx, _, .ref p.hd, rfl, ho1, T.cl, T.nC, fldH_cells _ _ _ _, _, rfl, p.hd, _, rfl, DPut.k (k := Sum.inl (cs.length : Int)) hd1 (by have := szl (n := 95001) (by decide); show kvs.length < sizeLine; omega), ?_⟩
  have hput : putK kvs (Sum.inl (cs.length : Int)) v = kvs ++ [(Sum.inl (cs.length : Int), v)] := by
    refine putK_new _ ?_
    exact hkv.out (.inr (by omega))
  rw [hput]
  have hd2 : upd H1 p.hd (.dK (kvs ++ [(Sum.inl (cs.length : Int), v)])) p.hd = some (.dK (kvs ++ [(Sum.inl (cs.length : Int), v)])) := upd_same
  have ho2 : upd H1 p.hd (.dK (kvs ++ [(Sum.inl (cs.length : Int), v)])) p.ho = some (.ins C dx (fldH p.room (used cs) p.hd ((cs.length : Int) + 1))) := by rw [upd_ne nod]; exact ho1
  have t2 : Fr F0 H (upd H1 p.hd (.dK (kvs ++ [(Sum.inl (cs.length : Int), v)]))) := t1.trans (fr_upd hd1 fun _ z => by cases z)
  have k2 : Keep2 p H (upd H1 p.hd (.dK (kvs ++ [(Sum.inl (cs.length : Int), v)]))) := fun b u n1 n2 e => by rw [upd_ne n2]; exact k1 _ _ n1 n2 e
  generalize upd H1 p.hd (.dK (kvs ++ [(Sum.inl (cs.length : Int), v)])) = H2 at hd2 ho2 t2 k2 ⊢
  refine ⟨_, rfl, p.ho, C, dx, _, .int (used cs), rfl, ho2, T.cl, T.nU, fldH_used _ _ _ _, _, rfl, v, _, _, rfl, sized_cell (c := c) (hat.keep t2), fun H3 s3 => ?_⟩
  have ho3 := s3 _ _ ho2
  refine ⟨_, _, rfl, rfl, dx, _, ho3, fldH_len .., ?_⟩
  rw [fldH_put_used, c.size_eq]
  have t3 := t2.trans (fr_same (B := F0) s3)
  have t4 : Fr F0 H3 (upd H3 p.ho (.ins C dx (fldH p.room (used cs + (c.size : Int)) p.hd ((cs.length : Int) + 1)))) := fr_upd ho3 fun _ z => by cases z
  have t34 := t3.trans t4
  refine ⟨_, rfl, q _ (fun b u n1 n2 e => by rw [upd_ne n1]; exact s3 _ _ (k2 _ _ n1 n2 e)) ⟨⟨dx, ?_⟩, ⟨kvs ++ [(Sum.inl (cs.length : Int), v)], by rw [upd_ne nod.symm]; exact s3 _ _ hd2, ?_⟩⟩⟩
  · rw [upd_same, used_app, List.length_append]
    show some (HO.ins C dx (fldH p.room (used cs + (c.size : Int)) p.hd ((cs.length : Int) + 1))) = some (HO.ins C dx (fldH p.room (used cs + ((c.size : Int) + 0)) p.hd ((cs.length + 1 : Nat) : Int)))
    rw [Int.add_zero]
    rfl
  · have := (hkv.keep t34).app (hat.keep t34)
    rw [Nat.zero_add] at this
    exact this
abbrev sCell : Stmt := inClass (topS 14) 2
theorem scCell : FnScope ["self", "address"] ["self", "address"] (defScope sCell) := ⟨rfl, rfl, rfl, by decide +kernel, rfl, by decide +kernel, by decide +kernel⟩
def spCell (C : Addr) : Sp := fun vs H Q _ => ∃ (p : Pl) (cs : List Cl) (a : Nat) (c : Cl), vs = [.ref p.ho, .int (a : Int)] ∧ hAt C H p cs ∧ cs[a]? = some c ∧ ∀ v, c.D.At F0 H v → Q v H
theorem c_cell {f : Addr} {fd : FuncData} (T : TxtH K C) (me : Meth K C "cell" f) (F : Fun K "cell" "Heap.cell" sCell f fd) (b : Binds K fd ["self", "address"] []) : C8.Met P w K mg base 1 C "cell" (spCell C) [] := by
  refine met_of T.cl me F b scCell (fun vs H Q E h => ?_) (fun cdv A outer s H vs Q E hr h => ?_)
  · obtain ⟨p, cs, a, c, rfl, _⟩ := h
    rfl
  obtain ⟨p, cs, a, c, rfl, ⟨⟨dx, ho⟩, kvs, hd, hkv⟩, hm, q⟩ := h
  have hu := hu_of hr
  refine ⟨_, (pss_one (ps_ret (pe_dget hu (pe_fld (pv 0) rfl) (pv 1) (fun _ _ => rfl)))), ?_⟩
  obtain ⟨v, hv, hat⟩ := hkv.get hm
  rw [Nat.zero_add] at hv
  exact ⟨_, rfl, p.ho, C, dx, _, .ref p.hd, rfl, ho, T.cl, T.nC, fldH_cells _ _ _ _, _, rfl, p.hd, v, rfl, hv ▸ DGet.k (k := Sum.inl (a : Int)) hd, q v hat⟩
abbrev sPut : Stmt := inClass (topS 14) 3
theorem scPut : FnScope ["self", "address", "cell"] ["self", "address", "cell"] (defScope sPut) := ⟨rfl, rfl, rfl, by decide +kernel, rfl, by decide +kernel, by decide +kernel⟩
def spPut (C : Addr) : Sp := fun vs H Q _ => ∃ (p : Pl) (cs : List Cl) (a : Nat) (v : V) (c e : Cl), vs = [.ref p.ho, .int (a : Int), v] ∧ hAt C H p cs ∧ p.ho ≠ p.hd ∧ cs[a]? = some e ∧ c.D.At F0 H v ∧ cs.length ≤ 95000 ∧ ∀ H', Keep2 p H H' → hAt C H' p (cs.set a c) → Q .non H'
theorem c_put {f : Addr} {fd : FuncData} (T : TxtH K C) (csize_of : C8.Cal P w K mg base 1 "size_of" (spSize K) []) (me : Meth K C "put" f) (F : Fun K "put" "Heap.put" sPut f fd) (b : Binds K fd ["self", "address", "cell"] []) : C8.Met P w K mg base 2 C "put" (spPut C) [] := by
  refine met_of T.cl me F b scPut (fun vs H Q E h => ?_) (fun cdv A outer s H vs Q E hr h => ?_)
  · obtain ⟨p, cs, a, v, c, e, rfl, _⟩ := h
    rfl
  obtain ⟨p, cs, a, v, c, e, rfl, ⟨⟨dx, ho⟩, kvs, hd, hkv⟩, nod, hi, hat, hl, q⟩ := h
  have hu := hu_of hr
  refine ⟨_, (pss_cons (ps_fldaug (pv 0) (pe_op op_sub (C8.pe_c csize_of hr (by decide) rfl (pa_cons (pv 2) pa_nil)) (C8.pe_c csize_of hr (by decide) rfl (pa_cons (pe_dget hu (pe_fld (pv 0) rfl) (pv 1) (fun _ _ => rfl)) pa_nil))) ip_add)
    (pss_one (ps_dput hu (pe_fld (pv 0) rfl) (pv 1) (pv 2) rfl))), ?_⟩
  obtain ⟨v', hv', hat'⟩ := hkv.get hi
  rw [Nat.zero_add] at hv'
  refine ⟨_, rfl, p.ho, C, dx, _, .int (used cs), rfl, ho, T.cl, T.nU, fldH_used _ _ _ _, _, rfl, v, _, _, rfl, sized_cell (c := c) hat, fun H1 s1 => ?_⟩
  have ho1 := s1 _ _ ho
  have hd1 := s1 _ _ hd
  refine ⟨_, rfl, p.ho, C, dx, _, .ref p.hd, rfl, ho1, T.cl, T.nC, fldH_cells _ _ _ _, _, rfl, p.hd, v', rfl, hv' ▸ DGet.k (k := Sum.inl (a : Int)) hd1, v', _, _, rfl, sized_cell (c := e) (hat'.keep (fr_same s1)), fun H2 s2 => ?_⟩
  have ho2 := s2 _ _ ho1
  have hd2 := s2 _ _ hd1
  have s02 := sameT s1 s2
  refine ⟨_, _, rfl, rfl, _, _, rfl, rfl, dx, _, ho2, fldH_len .., ?_⟩
  rw [fldH_put_used, c.size_eq, e.size_eq]
  have t3 : Fr F0 H2 (upd H2 p.ho (.ins C dx (fldH p.room (used cs + ((c.size : Int) - (e.size : Int))) p.hd (cs.length : Int)))) := fr_upd ho2 fun _ z => by cases z
  have ho3 : upd H2 p.ho (.ins C dx (fldH p.room (used cs + ((c.size : Int) - (e.size : Int))) p.hd (cs.length : Int))) p.ho = some (.ins C dx (fldH p.room (used cs + ((c.size : Int) - (e.size : Int))) p.hd (cs.length : Int))) := upd_same
  have hd3 : upd H2 p.ho (.ins C dx (fldH p.room (used cs + ((c.size : Int) - (e.size : Int))) p.hd (cs.length : Int))) p.hd = some (.dK kvs) := by rw [upd_ne nod.symm]; exact hd2
  have k3 : Keep2 p H (upd H2 p.ho (.ins C dx (fldH p.room (used cs + ((c.size : Int) - (e.size : Int))) p.hd (cs.length : Int)))) := fun b u n1 n2 e => by rw [upd_ne n1]; exact s02 _ _ e
  have t03 := (fr_same (B := F0) s02).trans t3
  generalize upd H2 p.ho (.ins C dx (fldH p.room (used cs + ((c.size : Int) - (e.size : Int))) p.hd (cs.length : Int))) = H3 at t3 ho3 hd3 k3 t03 ⊢
  refine ⟨_, rfl, _, rfl, p.ho, C, dx, _, .ref p.hd, rfl, ho3, T.cl, T.nC, fldH_cells _ _ _ _, _, rfl, p.hd, _, rfl, DPut.k (k := Sum.inl (a : Int)) hd3 (by have := szl (n := 95001) (by decide); have := hkv.len; show kvs.length < sizeLine; omega), ?_⟩
  have t4 := t03.trans (fr_upd (o := .dK (putK kvs (Sum.inl (a : Int)) v)) hd3 fun _ z => by cases z)
  refine q _ (fun b u n1 n2 e => by rw [upd_ne n2]; exact k3 _ _ n1 n2 e) ⟨⟨dx, by rw [upd_ne nod, used_set hi, List.length_set]; exact ho3⟩, ⟨_, upd_same, ?_⟩⟩
  have := CsAt.set (hat.keep t4) (hkv.keep t4) hi
  rw [Nat.zero_add] at this
  exact this
abbrev sFits : Stmt := inClass (topS 14) 5
theorem scFits : FnScope ["self", "size"] ["self", "size"] (defScope sFits) := ⟨rfl, rfl, rfl, by decide +kernel, rfl, by decide +kernel, by decide +kernel⟩
def spFits (C : Addr) : Sp := fun vs H Q _ => ∃ (p : Pl) (z : Int) (cs : List Cl), vs = [.ref p.ho, .int z] ∧ hAt C H p cs ∧ Q (.bl (decide (used cs + z ≤ p.room))) H
theorem c_fits {f : Addr} {fd : FuncData} (T : TxtH K C) (me : Meth K C "fits" f) (F : Fun K "fits" "Heap.fits" sFits f fd) (b : Binds K fd ["self", "size"] []) : C8.Met P w K mg base 1 C "fits" (spFits C) [] := by
  refine met_of T.cl me F b scFits (fun vs H Q E h => ?_) (fun cdv A outer s H vs Q E hr h => ?_)
  · obtain ⟨p, z, cs, rfl, _⟩ := h
    rfl
  obtain ⟨p, z, cs, rfl, ⟨⟨dx, ho⟩, kvs, hd, hkv⟩, q⟩ := h
  have hu := hu_of hr
  refine ⟨_, (pss_one (ps_ret (pe_cmpR op_le (pe_op op_add (pe_fld (pv 0) rfl) (pv 1)) (pe_fld (pv 0) rfl) (nomark _)))), ?_⟩
  refine ⟨_, rfl, p.ho, C, dx, _, .int (used cs), rfl, ho, T.cl, T.nU, fldH_used _ _ _ _, _, rfl, _, _, rfl, rfl, _, rfl, p.ho, C, dx, _, .int p.room, rfl, ho, T.cl, T.nR, fldH_room _ _ _ _, _, _, rfl, rfl, ?_⟩
  exact q
end
end Toy

set_option Elab.async false
set_option linter.all false
set_option maxRecDepth 100000
set_option maxHeartbeats 4000000
/-! Part E: entering, evaluating. -/
namespace Toy
open PySem L2
open PyProof.Rows (envOfC)
theorem at4 (x y z u t : V) (l : List V) : atI (x :: y :: z :: u :: t :: l) 4 = some t := atI_nat (j := 4) rfl
theorem take_snoc {α : Type} {l : List α} {i : Nat} {q : α} (h : l[i]? = some q) : l.take (i + 1) = l.take i ++ [q] := by
  rw [List.take_add_one, h]
  rfl
theorem ws_at {H : Hp} {ws : List Int} {v : V} (h : (wsD ws).At F0 H v) : ∃ a, v = .ref a ∧ H a = some (.tup (ws.map V.int)) := by
  obtain ⟨a, xs, rfl, ha, hs⟩ := h
  rw [ints_back hs] at ha
  exact ⟨a, rfl, ha⟩
theorem ws_of {H : Hp} {ws : List Int} {a : Addr} (h : H a = some (.tup (ws.map V.int))) : (wsD ws).At F0 H (.ref a) := ⟨a, _, rfl, h, ats_ints⟩
theorem sqT_same {K : PySem.W.Frag} {H H' : Hp} {a : Addr} {xs : List V} (h : SqT K H a xs) (e : Same H H') : SqT K H' a xs := by
  rcases h with (h | ⟨o, h⟩) | h
  · exact .inl (.inl (e _ _ h))
  · exact .inl (.inr ⟨o, e _ _ h⟩)
  · exact .inr h
/-- how what it does stands -/
def NwAt (K : PySem.W.Frag) (H : Hp) : Nw → V → Prop
  | .stuck, v => ∃ a, v = .ref a ∧ SqT K H a [.str "stuck"]
  | .enter w, v => (Nw.enter w).D.At F0 H v
  | .eval b ws, v => (Nw.eval b ws).D.At F0 H v
  | .val w, v => (Nw.val w).D.At F0 H v
  | .fin, v => Nw.fin.D.At F0 H v
  | .fault s, v => (Nw.fault s).D.At F0 H v
  | .loop, v => Nw.loop.D.At F0 H v
  | .full, v => Nw.full.D.At F0 H v
structure TxtMk (K : PySem.W.Frag) (C : Addr) : Prop where
  cl : Cls K C
  n_functions : NoAttr K C "functions"
  n_heap : NoAttr K C "heap"
  n_serial : NoAttr K C "next_serial"
  n_stack : NoAttr K C "stack"
  n_now : NoAttr K C "now"
  n_events : NoAttr K C "events"
  n_entered : NoAttr K C "entered"
  n_collections : NoAttr K C "collections"
structure TxtEv (mg : Str → Option Value) : Prop where
  zlen : mg "len" = none
  ztuple : mg "tuple" = none
  zsum : mg "sum" = none
  zrange : mg "range" = none
section
variable {P : Program} {w : World} {K : PySem.W.Frag} {mg : Str → Option Value} {base : Heap} {CM CH : Addr}
abbrev sWordOf : Stmt := topS 16
theorem scWordOf : FnScope ["operand", "words", "place", "value"] ["operand", "words"] (defScope sWordOf) := ⟨rfl, rfl, rfl, by decide +kernel, rfl, by decide +kernel, by decide +kernel⟩
def spWordOf : Sp := fun vs H Q _ => ∃ (ov wv : V) (o : Dd) (ws : List Int) (x : Int), vs = [ov, wv] ∧ o.At F0 H ov ∧ (wsD ws).At F0 H wv ∧ OpS o ws x ∧ Q (.int x) H
theorem c_wordof {f : Addr} {fd : FuncData} (F : Fun K "word_of" "word_of" sWordOf f fd) (b : Binds K fd ["operand", "words"] []) (hm : mg "word_of" = some (.ref f)) : C8.Cal P w K mg base 1 "word_of" spWordOf [] := by
  refine cal_of F hm b scWordOf (fun vs H Q E h => ?_) (fun cdv A outer s H vs Q E hr h => ?_)
  · obtain ⟨ov, wv, o, ws, x, rfl, _⟩ := h
    rfl
  obtain ⟨ov, wv, o, ws, x, rfl, hat, hws, hop, q⟩ := h
  refine ⟨_, (pss_cons (ps_asg (pv 0) (pg_tup rfl (pgs_cons (pg_name (i := 2) scWordOf.nd rfl (Or.inl rfl)) (pgs_cons (pg_name (i := 3) scWordOf.nd rfl (Or.inl rfl)) pgs_nil))))
    (pss_cons (ps_if (pt_cmpR op_eq (pv 2) pe_str (nomark _))
      (pss_one (ps_ret (pe_ix ix_tup (pv 1) (pv 3) (fun _ _ => rfl))))
      pss_nil)
    (pss_one (ps_ret (pe_ifExp (pt_cmpR op_eq (pv 2) pe_str (nomark _)) (pe_op op_mul pe_int (pv 3)) (pe_op op_add (pe_op op_mul pe_int (pv 3)) pe_int)))))), ?_⟩
  obtain ⟨wa, rfl, hwa⟩ := ws_at hws
  cases hop with
  | @slot i _ _ hi =>
    obtain ⟨a, xs, rfl, ha, x1, ys, rfl, ⟨rfl, _⟩, y1, zs, rfl, hy, hn⟩ := hat
    cases (show zs = [] from hn)
    cases (show y1 = .int (i : Int) from hy)
    refine ⟨_, rfl, a, _, rfl, SqT.of ha, rfl, _, _, rfl, _, _, rfl, rfl, ?_⟩
    refine ⟨_, rfl, rfl, _, rfl, ?_⟩
    refine iteT ?_
    exact ⟨_, rfl, _, rfl, wa, _, (i : Int), _, rfl, rfl, SqT.of hwa, atI_nat (by rw [List.getElem?_map, hi]; rfl), q⟩
  | @glob i _ =>
    obtain ⟨a, xs, rfl, ha, x1, ys, rfl, ⟨rfl, _⟩, y1, zs, rfl, hy, hn⟩ := hat
    cases (show zs = [] from hn)
    cases (show y1 = .int i from hy)
    refine ⟨_, rfl, a, _, rfl, SqT.of ha, rfl, _, _, rfl, _, _, rfl, rfl, ?_⟩
    refine ⟨_, rfl, rfl, _, rfl, ?_⟩
    show if decide (V.str "global" = V.str "slot") = true then _ else _
    rw [wne (show ("global" : Str) ≠ "slot" by decide +kernel)]
    refine iteF ?_
    refine ⟨_, rfl, rfl, _, rfl, ?_⟩
    refine iteT ?_
    exact ⟨_, rfl, _, _, rfl, rfl, .inl ⟨by decide, by decide⟩, q⟩
  | @num i _ =>
    obtain ⟨a, xs, rfl, ha, x1, ys, rfl, ⟨rfl, _⟩, y1, zs, rfl, hy, hn⟩ := hat
    cases (show zs = [] from hn)
    cases (show y1 = .int i from hy)
    refine ⟨_, rfl, a, _, rfl, SqT.of ha, rfl, _, _, rfl, _, _, rfl, rfl, ?_⟩
    refine ⟨_, rfl, rfl, _, rfl, ?_⟩
    show if decide (V.str "number" = V.str "slot") = true then _ else _
    rw [wne (show ("number" : Str) ≠ "slot" by decide +kernel)]
    refine iteF ?_
    refine ⟨_, rfl, rfl, _, rfl, ?_⟩
    show if decide (V.str "number" = V.str "global") = true then _ else _
    rw [wne (show ("number" : Str) ≠ "global" by decide +kernel)]
    refine iteF ?_
    exact ⟨_, rfl, _, _, rfl, rfl, .inl ⟨by decide, by decide⟩, _, _, rfl, rfl, q⟩
abbrev sWordsOf : Stmt := topS 28
theorem scWordsOf : FnScope ["operands", "words", "operand"] ["operands", "words"] (defScope sWordsOf) := ⟨rfl, rfl, rfl, by decide +kernel, rfl, by decide +kernel, by decide +kernel⟩
def spWordsOf : Sp := fun vs H Q _ => ∃ (ov wv : V) (os : List Dd) (ws us : List Int), vs = [ov, wv] ∧ (Dd.tup os).At F0 H ov ∧ (wsD ws).At F0 H wv ∧ OpsS os ws us ∧ os.length ≤ 1000 ∧ ∀ (t : Addr) (H' : Hp), Same H H' → H' t = some (.tup (us.map V.int)) → Q (.ref t) H'
theorem c_wordsof {f : Addr} {fd : FuncData} (T : TxtEv mg) (cword_of : C8.Cal P w K mg base 1 "word_of" spWordOf []) (F : Fun K "_words_of" "_words_of" sWordsOf f fd) (b : Binds K fd ["operands", "words"] []) (hm : mg "_words_of" = some (.ref f)) : C8.Cal P w K mg base 2 "_words_of" spWordsOf [] := by
  refine cal_of F hm b scWordsOf (fun vs H Q E h => ?_) (fun cdv A outer s H vs Q E hr h => ?_)
  · obtain ⟨ov, wv, os, ws, us, rfl, _⟩ := h
    rfl
  obtain ⟨ov, wv, os, ws, us, rfl, ⟨a, xs, rfl, ha, hs⟩, hws, hop, hl, q⟩ := h
  refine ⟨_, (pss_one (ps_ret (pe_callTy call_tuple_of rfl T.ztuple boot_tuple (pa_cons (pe_lc (own := [("operand", 2)]) (g := gName 2) (tt := tYes) (te := (tCall spWordOf [] C8.E0 (tCons (tVar 2) (tCons (tVar 1) tNil)))) rfl scWordsOf.nd (pi_tup (pv 0)) (blkOk_by (own := [("operand", 2)]) (N := ["operands", "words", "operand"]) (sc := defScope sWordsOf) (by decide +kernel)) (fun _ _ _ _ _ => (pg_name (i := 2) scWordsOf.nd rfl (Or.inl rfl))) (fun _ _ _ _ _ => pts_nil) (fun _ _ _ _ _ => (C8.pe_c cword_of hr (by decide) rfl (pa_cons (pv 2) (pa_cons (pv 1) pa_nil))))) pa_nil)))), ?_⟩
  obtain ⟨wa, rfl, hwa⟩ := ws_at hws
  have hxl := ats_len hs
  have hul := hop.len
  refine ⟨_, rfl, a, rfl, ⟨xs, SqT.of ha⟩, fun D hD => ?_⟩
  refine lc_tup (K := K) (a := a) (xs := xs) (fun i G => Same H G ∧ G D = some (.lst ((us.take i).map V.int))) ⟨same_new hD _, upd_same⟩ (fun i G hi ⟨h1, h2⟩ => SqT.of (h1 _ _ ha)) ?_ ?_
  · rintro i x G hx ⟨h1, h2⟩
    obtain ⟨o, ho, hoat⟩ := ats_get hs hx
    obtain ⟨u, hu, hou⟩ := hop.get ho
    refine ⟨rfl, ?_⟩
    refine tYes_if ?_
    have hil : i < us.length := (List.getElem?_eq_some_iff.mp hu).1
    refine ⟨_, rfl, _, rfl, x, .ref wa, o, ws, u, rfl, hoat.keep (fr_same h1), ws_of (h1 _ _ hwa), hou, _, h2, ?_, same_upd hD h1 _, ?_⟩
    · rw [List.length_map, List.length_take]
      exact szl (by omega)
    · rw [upd_same, take_snoc hu, List.map_append]
      rfl
  · rintro G ⟨h1, h2⟩
    rw [show us.take xs.length = us from List.take_of_length_le (by omega)] at h2
    exact ⟨D, _, rfl, .inl ⟨SqL.of h2, fun t ht => q t _ (sameT h1 (same_new ht _)) upd_same⟩⟩
end
end Toy

set_option Elab.async false
set_option linter.all false
set_option maxRecDepth 100000
set_option maxHeartbeats 4000000
/-! Part F: entering; a member's cell and size. -/
namespace Toy
open PySem L2
open PyProof.Rows (envOfC)
theorem in_strs (z : Str) (zs : List Str) : (if false = true then !inV (.str z) (zs.map V.str) else inV (.str z) (zs.map V.str)) = decide (z ∈ zs) := by rw [if_neg (by decide), inV_strs]
theorem flat_strs : ∀ l : List Str, (l.map V.str).all flatV = true
  | [] => rfl
  | y :: l => by
    rw [List.map_cons, List.all_cons, flat_strs l]
    rfl
theorem cell_word {H : Hp} {c : Cl} {v : V} (h : c.D.At F0 H v) : ∃ a xs, v = .ref a ∧ H a = some (.tup (.str c.word :: xs)) := by
  cases c with
  | hole => obtain ⟨a, xs, rfl, ha, x, ys, rfl, ⟨rfl, _⟩, hy⟩ := h; exact ⟨a, _, rfl, ha⟩
  | on i => obtain ⟨a, xs, rfl, ha, x, ys, rfl, ⟨rfl, _⟩, hy⟩ := h; exact ⟨a, _, rfl, ha⟩
  | lat b ws s => obtain ⟨a, xs, rfl, ha, x, ys, rfl, ⟨rfl, _⟩, hy⟩ := h; exact ⟨a, _, rfl, ha⟩
  | part i ws => obtain ⟨a, xs, rfl, ha, x, ys, rfl, ⟨rfl, _⟩, hy⟩ := h; exact ⟨a, _, rfl, ha⟩
  | con t ws => obtain ⟨a, xs, rfl, ha, x, ys, rfl, ⟨rfl, _⟩, hy⟩ := h; exact ⟨a, _, rfl, ha⟩
theorem odd_ne (n : Int) : (!decide (V.int ((2 * n + 1) % 2) = V.int 0)) = true := by
  rw [decide_eq_false (fun e => by have := V.int.inj e; omega)]
  rfl
theorem even_ne (n : Int) : (!decide (V.int ((2 * n) % 2) = V.int 0)) = false := by
  rw [decide_eq_true (by rw [show (2 * n) % 2 = 0 by omega])]
  rfl
theorem half (n : Int) : (2 * n) / 2 = n := by omega
theorem half1 (n : Int) : (2 * n + 1) / 2 = n := by omega
theorem nin_cp {z : Str} (h1 : z ≠ "con") (h2 : z ≠ "part") : decide (z ∈ [("con" : Str), "part"]) = false := decide_eq_false (by simp [h1, h2])
section
variable {P : Program} {w : World} {K : PySem.W.Frag} {mg : Str → Option Value} {base : Heap} {CM CH : Addr}
abbrev sEnter : Stmt := topS 10
theorem scEnter : FnScope ["machine", "word", "address", "cell", "_", "body", "words", "serial"] ["machine", "word"] (defScope sEnter) := ⟨rfl, rfl, rfl, by decide +kernel, rfl, by decide +kernel, by decide +kernel⟩
def spEnter (K : PySem.W.Frag) (CM CH : Addr) : Sp := fun vs H Q _ => ∃ (p : Pl) (m m' : Mc) (nv : V) (co x : Int) (n : Nw), vs = [.ref p.mo, .int x] ∧ MkAt CM CH H p m nv co ∧ EnS x m n m' ∧ m.small ∧ ∀ (v' : V) (H' : Hp), KeepM p H H' → MkAt CM CH H' p m' nv co → NwAt K H' n v' → Q v' H'
theorem c_enter {f : Addr} {fd : FuncData} (TM : TxtMk K CM) (TH : TxtH K CH) (ccell : C8.Met P w K mg base 1 CH "cell" (spCell CH) []) (cput : C8.Met P w K mg base 2 CH "put" (spPut CH) []) (F : Fun K "enter" "enter" sEnter f fd) (b : Binds K fd ["machine", "word"] []) (hm : mg "enter" = some (.ref f)) : C8.Cal P w K mg base 3 "enter" (spEnter K CM CH) [] := by
  refine cal_of F hm b scEnter (fun vs H Q E h => ?_) (fun cdv A outer s H vs Q E hr h => ?_)
  · obtain ⟨p, m, m', nv, co, x, n, rfl, _⟩ := h
    rfl
  obtain ⟨p, m, m', nv, co, x, n, rfl, M, hst, hsm, q⟩ := h
  refine ⟨_, (pss_cons (ps_if (pt_cmpR op_ne (pe_op op_mod (pv 1) pe_int) pe_int (nomark _))
      (pss_one (ps_ret (pe_tup (pa_cons pe_str (pa_cons (pv 1) pa_nil)))))
      pss_nil)
    (pss_cons (ps_set (i := 2) scEnter.nd rfl (Or.inl rfl) (pe_op op_fdiv (pv 1) pe_int))
    (pss_cons (ps_set (i := 3) scEnter.nd rfl (Or.inl rfl) (C8.pe_mt ccell hr (by decide) (pe_fld (pv 0) rfl) (pa_cons (pv 2) pa_nil)))
    (pss_cons (ps_if (pt_cmpR op_in_seq (pe_ix ix_tup (pv 3) pe_int (fun _ _ => rfl)) (pe_tup (pa_cons pe_str (pa_cons pe_str pa_nil))) rfl)
      (pss_one (ps_ret (pe_tup (pa_cons pe_str (pa_cons (pv 1) pa_nil)))))
      pss_nil)
    (pss_cons (ps_if (pt_cmpR op_eq (pe_ix ix_tup (pv 3) pe_int (fun _ _ => rfl)) pe_str (nomark _))
      (pss_one (ps_ret (pe_tup (pa_cons pe_str (pa_cons (pe_ix ix_tup (pv 3) pe_int (fun _ _ => rfl)) pa_nil)))))
      pss_nil)
    (pss_cons (ps_if (pt_cmpR op_eq (pe_ix ix_tup (pv 3) pe_int (fun _ _ => rfl)) pe_str (nomark _))
      (pss_one (ps_ret (pe_tup (pa_cons pe_str pa_nil))))
      pss_nil)
    (pss_cons (ps_asg (pv 3) (pg_tup rfl (pgs_cons (pg_name (i := 4) scEnter.nd rfl (Or.inl rfl)) (pgs_cons (pg_name (i := 5) scEnter.nd rfl (Or.inl rfl)) (pgs_cons (pg_name (i := 6) scEnter.nd rfl (Or.inl rfl)) (pgs_cons (pg_name (i := 7) scEnter.nd rfl (Or.inl rfl)) pgs_nil))))))
    (pss_cons (ps_expr (C8.pe_mt cput hr (by decide) (pe_fld (pv 0) rfl) (pa_cons (pv 2) (pa_cons (pe_tup (pa_cons pe_str pa_nil)) pa_nil))))
    (pss_cons (ps_expr (pe_bm PySem.F.plainAttrs_list PySem.F.slot_list_append PySem.F.type_list_append mt_append (pe_fld (pv 0) rfl) (pa_cons (pv 7) pa_nil)))
    (pss_cons (ps_expr (pe_bm PySem.F.plainAttrs_list PySem.F.slot_list_append PySem.F.type_list_append mt_append (pe_fld (pv 0) rfl) (pa_cons (pe_tup (pa_cons pe_str (pa_cons (pv 2) pa_nil))) pa_nil)))
    (pss_one (ps_ret (pe_tup (pa_cons pe_str (pa_cons (pv 5) (pa_cons (pv 6) pa_nil)))))))))))))))), ?_⟩
  obtain ⟨dx, ho⟩ := M.o
  obtain ⟨⟨dy, hho⟩, _⟩ := id M.h
  refine ⟨_, rfl, _, _, rfl, rfl, (show (0 : Int) < 2 by decide), rfl, _, rfl, ?_⟩
  have tup2 : ∀ (H1 : Hp) (z : Str) (x : V) (k : Dd), z.length ≤ 1000 → Same H H1 → k.At F0 H x → ∀ t, H1 t = none → (Dd.tup [.str z, k]).At F0 (upd H1 t (.tup [.str z, x])) (.ref t) := fun H1 z x k hz s1 hk t ht => at_tup upd_same (ats_cons (at_str' hz) (ats_cons (hk.keep (fr_same (sameT s1 (same_new ht _)))) ats_nil))
  -- the cell under an even word
  have even : ∀ {A B : Prop}, ∀ n : Int, B → if (!decide (V.int ((2 * n) % 2) = V.int 0)) = true then A else B := fun n hb => by rw [even_ne]; exact iteF hb
  cases hst with
  | @odd n _ =>
    show if (!decide (V.int ((2 * n + 1) % 2) = V.int 0)) = true then _ else _
    rw [odd_ne]
    refine iteT ?_
    refine ⟨_, rfl, by show 2 ≤ sizeLine; decide, fun t ht => ?_⟩
    have s1 := same_new ht (.tup [.str "value", .int (2 * n + 1)])
    exact q _ _ (KeepM.same s1) (M.same s1) (tup2 H "value" _ (.int _) (by decide +kernel) same_id rfl t ht)
  | @val n _ c hc hcw =>
    refine even (n : Int) ?_
    refine ⟨_, rfl, _, _, rfl, rfl, ⟨by decide, by decide⟩, ?_⟩
    show gName 2 (V.int ((2 * (n : Int)) / 2)) _ _ _
    rw [half]
    refine ⟨_, rfl, p.mo, CM, dx, _, .ref p.ho, rfl, ho, TM.cl, TM.n_heap, fM_heap .., p.ho, dy, _, rfl, hho, fldH_no_cell .., _, rfl, p, m.cs, n, _, rfl, M.h, hc, fun cv hcv => ?_⟩
    obtain ⟨ca, cxs, rfl, hca⟩ := cell_word hcv
    refine ⟨_, rfl, ca, _, 0, _, rfl, rfl, SqT.of hca, at0 _ _, by show 2 ≤ sizeLine; decide, fun u hu => ?_⟩
    have s1 := same_new hu (.tup [.str "con", .str "part"])
    have e1 : upd H u (.tup [.str "con", .str "part"]) u = some (.tup ([("con" : Str), "part"].map V.str)) := upd_same
    refine ⟨u, _, rfl, .inr (SqT.of e1), rfl, flat_strs _, ?_⟩
    rw [in_strs]
    refine ⟨_, rfl, ?_⟩
    generalize upd H u (.tup [.str "con", .str "part"]) = H1 at s1 e1 ⊢
    rw [show decide (c.word ∈ [("con" : Str), "part"]) = true from decide_eq_true (by rcases hcw with h | h <;> rw [h] <;> decide +kernel)]
    refine iteT ?_
    refine ⟨_, rfl, by show 2 ≤ sizeLine; decide, fun t ht => ?_⟩
    have s2 := sameT s1 (same_new ht (.tup [.str "value", .int (2 * (n : Int))]))
    exact q _ _ (KeepM.same s2) (M.same s2) (tup2 H1 "value" _ (.int _) (by decide +kernel) s1 rfl t ht)
  | @on n _ w hc =>
    refine even (n : Int) ?_
    refine ⟨_, rfl, _, _, rfl, rfl, ⟨by decide, by decide⟩, ?_⟩
    show gName 2 (V.int ((2 * (n : Int)) / 2)) _ _ _
    rw [half]
    refine ⟨_, rfl, p.mo, CM, dx, _, .ref p.ho, rfl, ho, TM.cl, TM.n_heap, fM_heap .., p.ho, dy, _, rfl, hho, fldH_no_cell .., _, rfl, p, m.cs, n, _, rfl, M.h, hc, fun cv hcv => ?_⟩
    obtain ⟨ca, cxs, rfl, hca⟩ := cell_word hcv
    refine ⟨_, rfl, ca, _, 0, _, rfl, rfl, SqT.of hca, at0 _ _, by show 2 ≤ sizeLine; decide, fun u hu => ?_⟩
    have s1 := same_new hu (.tup [.str "con", .str "part"])
    have e1 : upd H u (.tup [.str "con", .str "part"]) u = some (.tup ([("con" : Str), "part"].map V.str)) := upd_same
    refine ⟨u, _, rfl, .inr (SqT.of e1), rfl, flat_strs _, ?_⟩
    rw [in_strs]
    refine ⟨_, rfl, ?_⟩
    generalize upd H u (.tup [.str "con", .str "part"]) = H1 at s1 e1 ⊢
    rw [nin_cp (z := (Cl.on w).word) (show ("on" : Str) ≠ "con" by decide +kernel) (show ("on" : Str) ≠ "part" by decide +kernel)]
    refine iteF ?_
    refine ⟨_, rfl, ca, _, 0, _, rfl, rfl, SqT.of (s1 _ _ hca), at0 _ _, rfl, _, rfl, ?_⟩
    refine iteT ?_
    obtain ⟨a2, xs2, e2, ha2, x1, ys1, rfl, hx1, y1, zs1, rfl, hy1, hn1⟩ := hcv
    cases e2
    rw [hca] at ha2
    cases ha2
    cases (show y1 = .int w from hy1)
    refine ⟨_, rfl, ca, _, 1, _, rfl, rfl, SqT.of (s1 _ _ hca), at1 _ _ _, by show 2 ≤ sizeLine; decide, fun t ht => ?_⟩
    have s2 := sameT s1 (same_new ht (.tup [.str "enter", .int w]))
    exact q _ _ (KeepM.same s2) (M.same s2) (tup2 H1 "enter" _ (.int _) (by decide +kernel) s1 rfl t ht)
  | @hole n _ hc =>
    refine even (n : Int) ?_
    refine ⟨_, rfl, _, _, rfl, rfl, ⟨by decide, by decide⟩, ?_⟩
    show gName 2 (V.int ((2 * (n : Int)) / 2)) _ _ _
    rw [half]
    refine ⟨_, rfl, p.mo, CM, dx, _, .ref p.ho, rfl, ho, TM.cl, TM.n_heap, fM_heap .., p.ho, dy, _, rfl, hho, fldH_no_cell .., _, rfl, p, m.cs, n, _, rfl, M.h, hc, fun cv hcv => ?_⟩
    obtain ⟨ca, cxs, rfl, hca⟩ := cell_word hcv
    refine ⟨_, rfl, ca, _, 0, _, rfl, rfl, SqT.of hca, at0 _ _, by show 2 ≤ sizeLine; decide, fun u hu => ?_⟩
    have s1 := same_new hu (.tup [.str "con", .str "part"])
    have e1 : upd H u (.tup [.str "con", .str "part"]) u = some (.tup ([("con" : Str), "part"].map V.str)) := upd_same
    refine ⟨u, _, rfl, .inr (SqT.of e1), rfl, flat_strs _, ?_⟩
    rw [in_strs]
    refine ⟨_, rfl, ?_⟩
    generalize upd H u (.tup [.str "con", .str "part"]) = H1 at s1 e1 ⊢
    rw [nin_cp (z := Cl.hole.word) (show ("hole" : Str) ≠ "con" by decide +kernel) (show ("hole" : Str) ≠ "part" by decide +kernel)]
    refine iteF ?_
    refine ⟨_, rfl, ca, _, 0, _, rfl, rfl, SqT.of (s1 _ _ hca), at0 _ _, rfl, _, rfl, ?_⟩
    show if decide (V.str Cl.hole.word = V.str "on") = true then _ else _
    rw [wne (z := Cl.hole.word) (show ("hole" : Str) ≠ "on" by decide +kernel)]
    refine iteF ?_
    refine ⟨_, rfl, ca, _, 0, _, rfl, rfl, SqT.of (s1 _ _ hca), at0 _ _, rfl, _, rfl, ?_⟩
    refine iteT ?_
    refine ⟨by show 1 ≤ sizeLine; decide, fun t ht => ?_⟩
    have s2 := sameT s1 (same_new ht (.tup [.str "loop"]))
    exact q _ _ (KeepM.same s2) (M.same s2) (at_tup upd_same (ats_cons (at_str' (by decide +kernel)) ats_nil))
  | @lat n _ bd ws sr hc =>
    refine even (n : Int) ?_
    refine ⟨_, rfl, _, _, rfl, rfl, ⟨by decide, by decide⟩, ?_⟩
    show gName 2 (V.int ((2 * (n : Int)) / 2)) _ _ _
    rw [half]
    refine ⟨_, rfl, p.mo, CM, dx, _, .ref p.ho, rfl, ho, TM.cl, TM.n_heap, fM_heap .., p.ho, dy, _, rfl, hho, fldH_no_cell .., _, rfl, p, m.cs, n, _, rfl, M.h, hc, fun cv hcv => ?_⟩
    obtain ⟨ca, cxs, rfl, hca⟩ := cell_word hcv
    refine ⟨_, rfl, ca, _, 0, _, rfl, rfl, SqT.of hca, at0 _ _, by show 2 ≤ sizeLine; decide, fun u hu => ?_⟩
    have s1 := same_new hu (.tup [.str "con", .str "part"])
    have e1 : upd H u (.tup [.str "con", .str "part"]) u = some (.tup ([("con" : Str), "part"].map V.str)) := upd_same
    refine ⟨u, _, rfl, .inr (SqT.of e1), rfl, flat_strs _, ?_⟩
    rw [in_strs]
    refine ⟨_, rfl, ?_⟩
    generalize upd H u (.tup [.str "con", .str "part"]) = H1 at s1 e1 ⊢
    rw [nin_cp (z := (Cl.lat bd ws sr).word) (show ("later" : Str) ≠ "con" by decide +kernel) (show ("later" : Str) ≠ "part" by decide +kernel)]
    refine iteF ?_
    refine ⟨_, rfl, ca, _, 0, _, rfl, rfl, SqT.of (s1 _ _ hca), at0 _ _, rfl, _, rfl, ?_⟩
    show if decide (V.str (Cl.lat bd ws sr).word = V.str "on") = true then _ else _
    rw [wne (z := (Cl.lat bd ws sr).word) (show ("later" : Str) ≠ "on" by decide +kernel)]
    refine iteF ?_
    refine ⟨_, rfl, ca, _, 0, _, rfl, rfl, SqT.of (s1 _ _ hca), at0 _ _, rfl, _, rfl, ?_⟩
    show if decide (V.str (Cl.lat bd ws sr).word = V.str "hole") = true then _ else _
    rw [wne (z := (Cl.lat bd ws sr).word) (show ("later" : Str) ≠ "hole" by decide +kernel)]
    refine iteF ?_
    obtain ⟨a2, xs2, e2, ha2, x1, ys1, rfl, hx1, y1, zs1, rfl, hy1, y2, zs2, rfl, hy2, y3, zs3, rfl, hy3, hn1⟩ := hcv
    cases e2
    rw [hca] at ha2
    cases ha2
    cases (show zs3 = [] from hn1)
    cases (show y3 = .int sr from hy3)
    refine ⟨_, rfl, ca, _, rfl, SqT.of (s1 _ _ hca), rfl, _, _, rfl, _, _, rfl, _, _, rfl, _, _, rfl, rfl, ?_⟩
    have M1 := M.same s1
    obtain ⟨dx1, ho1⟩ := M1.o
    obtain ⟨⟨dy1, hho1⟩, _⟩ := id M1.h
    refine ⟨_, rfl, p.mo, CM, dx1, _, .ref p.ho, rfl, ho1, TM.cl, TM.n_heap, fM_heap .., p.ho, dy1, _, rfl, hho1, fldH_no_put .., _, rfl, by show 1 ≤ sizeLine; decide, fun t ht => ?_⟩
    have s2 := same_new ht (.tup [.str "hole"])
    have M2 := M1.same s2
    refine ⟨p, m.cs, n, _, .hole, _, rfl, M2.h, M2.ok.2.2.2.2.2.1, hc, at_tup upd_same (ats_cons (at_str' (by decide +kernel)) ats_nil), Nat.le_trans hsm.c (by decide), fun H3 k3 h3 => ?_⟩
    obtain ⟨M3, km3, fr3⟩ := M2.cells h3 k3
    obtain ⟨dx3, ho3⟩ := M3.o
    obtain ⟨es, hes, hesA⟩ := id M3.n
    have hesl := ats_len hesA
    rw [List.length_map] at hesl
    have hsn := hsm.n
    refine ⟨_, rfl, p.mo, CM, dx3, _, .ref p.na, rfl, ho3, TM.cl, TM.n_entered, fM_entered .., .inl ⟨rfl, _, SqL.of hes⟩, _, rfl, p.na, _, _, rfl, rfl, hes, szl (by have : es.length = m.ent.length := hesl; omega), ?_⟩
    obtain ⟨M4, km4, fr4⟩ := M3.ents hes (i := sr)
    generalize upd H3 p.na (.lst (es ++ [.int sr])) = H4 at M4 km4 fr4 ⊢
    obtain ⟨dx4, ho4⟩ := M4.o
    obtain ⟨ss, hss, hssA⟩ := id M4.s
    have hssl := ats_len hssA
    rw [List.length_map] at hssl
    have hss' := hsm.s
    refine ⟨_, rfl, p.mo, CM, dx4, _, .ref p.sa, rfl, ho4, TM.cl, TM.n_stack, fM_stack .., .inl ⟨rfl, _, SqL.of hss⟩, _, rfl, by show 2 ≤ sizeLine; decide, fun t5 ht5 => ?_⟩
    have s5 := same_new ht5 (.tup [.str "update", .int (n : Int)])
    have M5 := M4.same s5
    have hv5 : (Fm.upd (n : Int)).D.At F0 (upd H4 t5 (.tup [.str "update", .int (n : Int)])) (.ref t5) := at_tup upd_same (ats_cons (at_str' (by decide +kernel)) (ats_cons rfl ats_nil))
    have hss5 := s5 _ _ hss
    generalize upd H4 t5 (.tup [.str "update", .int (n : Int)]) = H5 at s5 M5 hv5 hss5 ⊢
    refine ⟨p.sa, _, _, rfl, rfl, hss5, szl (by have : ss.length = m.stk.length := hssl; omega), ?_⟩
    obtain ⟨M6, km6, fr6⟩ := M5.push hss5 hv5
    generalize upd H5 p.sa (.lst (ss ++ [.ref t5])) = H6 at M6 km6 fr6 ⊢
    have frA : Fr F0 H H6 := (((((fr_same s1).trans (fr_same s2)).trans fr3).trans fr4).trans (fr_same s5)).trans fr6
    refine ⟨_, rfl, _, rfl, by show 3 ≤ sizeLine; decide, fun t7 ht7 => ?_⟩
    have s7 := same_new ht7 (.tup [.str "eval", y1, y2])
    refine q _ _ ((((((KeepM.same s1).trans (KeepM.same s2)).trans km3).trans km4).trans (KeepM.same s5)).trans (km6.trans (KeepM.same s7))) (M6.same s7) ?_
    exact at_tup upd_same (ats_cons (at_str' (by decide +kernel)) (ats_cons ((hy1.keep frA).keep (fr_same s7)) (ats_cons ((hy2.keep frA).keep (fr_same s7)) ats_nil)))
end
end Toy

set_option Elab.async false
set_option linter.all false
set_option maxRecDepth 100000
set_option maxHeartbeats 4000000
/-! Part G: evaluating. -/
namespace Toy
open PySem L2
open PyProof.Rows (envOfC)
theorem head_at {H : Hp} {z : Str} {r : List Dd} {v : V} (h : (Dd.tup (.str z :: r)).At F0 H v) : ∃ a ys, v = .ref a ∧ H a = some (.tup (.str z :: ys)) ∧ Dd.Ats F0 H r ys := by
  obtain ⟨a, xs, rfl, ha, x, ys, rfl, ⟨rfl, _⟩, hs⟩ := h
  exact ⟨a, ys, rfl, ha, hs⟩
theorem needE_con {t : Int} {os : List Dd} : needE (.tup [.str "con", .int t, .tup os]) = 1 + (os.length : Int) := by
  show (if ("con" : Str) = "con" then 1 + (os.length : Int) else if ("con" : Str) = "let" then ((tl (.int t)).map mbSize).sum else 0) = _
  rw [if_pos rfl]
theorem needE_let {ms : List Dd} {b : Dd} : needE (.tup [.str "let", .tup ms, b]) = (ms.map mbSize).sum := by
  show (if ("let" : Str) = "con" then 1 + ((tl b).length : Int) else if ("let" : Str) = "let" then (ms.map mbSize).sum else 0) = _
  rw [if_neg (by decide +kernel), if_pos rfl]
section
variable {P : Program} {w : World} {K : PySem.W.Frag} {mg : Str → Option Value} {base : Heap} {CM CH : Addr}
abbrev sSizeM : Stmt := topS 29
theorem scSizeM : FnScope ["member"] ["member"] (defScope sSizeM) := ⟨rfl, rfl, rfl, by decide +kernel, rfl, by decide +kernel, by decide +kernel⟩
def spSizeM : Sp := fun vs H Q _ => ∃ (kv : V) (k : Dd) (ws : List Int) (s s' : Int) (c : Cl), vs = [kv] ∧ k.At F0 H kv ∧ MbS k ws s c s' ∧ ∀ H', Same H H' → Q (.int (mbSize k)) H'
theorem c_sizem {f : Addr} {fd : FuncData} (csize_of : C8.Cal P w K mg base 1 "size_of" (spSize K) []) (F : Fun K "_size_of_member" "_size_of_member" sSizeM f fd) (b : Binds K fd ["member"] []) (hm : mg "_size_of_member" = some (.ref f)) : C8.Cal P w K mg base 2 "_size_of_member" spSizeM [] := by
  refine cal_of F hm b scSizeM (fun vs H Q E h => ?_) (fun cdv A outer s H vs Q E hr h => ?_)
  · obtain ⟨kv, k, ws, s, s', c, rfl, _⟩ := h
    rfl
  obtain ⟨kv, k, ws, s0, s', c, rfl, hat, hmb, q⟩ := h
  refine ⟨_, (pss_cons (ps_if (pt_cmpR op_eq (pe_ix ix_tup (pv 0) pe_int (fun _ _ => rfl)) pe_str (nomark _))
      (pss_one (ps_ret (C8.pe_c csize_of hr (by decide) rfl (pa_cons (pe_tup (pa_cons pe_str (pa_cons (pe_ix ix_tup (pv 0) pe_int (fun _ _ => rfl)) (pa_cons (pe_ix ix_tup (pv 0) pe_int (fun _ _ => rfl)) (pa_cons pe_int pa_nil))))) pa_nil))))
      pss_nil)
    (pss_one (ps_ret (C8.pe_c csize_of hr (by decide) rfl (pa_cons (pv 0) pa_nil))))), ?_⟩
  cases hmb with
  | @lat os bd _ us _ hop hl =>
    obtain ⟨a, xs, rfl, ha, x, ys, rfl, ⟨rfl, _⟩, y, zs, rfl, ⟨oa, oxs, rfl, hoa, hos⟩, z, ts, rfl, hz, hn⟩ := hat
    cases (show ts = [] from hn)
    refine ⟨_, rfl, a, _, 0, _, rfl, rfl, SqT.of ha, at0 _ _, rfl, _, rfl, ?_⟩
    refine iteT ?_
    refine ⟨_, rfl, a, _, 2, _, rfl, rfl, SqT.of ha, at2 _ _ _ _, _, rfl, a, _, 1, _, rfl, rfl, SqT.of ha, at1 _ _ _, by show 4 ≤ sizeLine; decide, fun t ht => ?_⟩
    have s1 := same_new ht (.tup [.str "later", z, .ref oa, .int 0])
    refine ⟨.ref t, "later", os.length, rfl, ⟨t, _, rfl, upd_same, at0 _ _, fun _ => ⟨oa, oxs, at2 _ _ _ _, SqT.of (s1 _ _ hoa), ats_len hos⟩⟩, fun H' s' => ?_⟩
    exact q _ (sameT s1 s')
  | @cp c i os _ us _ hop hl =>
    obtain ⟨a, xs, rfl, ha, x, ys, rfl, ⟨rfl, _⟩, y, zs, rfl, hy, z, ts, rfl, ⟨oa, oxs, rfl, hoa, hos⟩, hn⟩ := hat
    have e : cpW c ≠ "later" := by cases c <;> decide +kernel
    refine ⟨_, rfl, a, _, 0, _, rfl, rfl, SqT.of ha, at0 _ _, rfl, _, rfl, ?_⟩
    show if decide (V.str (cpW c) = V.str "later") = true then _ else _
    rw [wne e]
    refine iteF ?_
    refine ⟨_, rfl, .ref a, cpW c, os.length, rfl, ⟨a, _, rfl, ha, at0 _ _, fun _ => ⟨oa, oxs, at2 _ _ _ _, SqT.of hoa, ats_len hos⟩⟩, fun H' s' => ?_⟩
    have e2 : mbSize (.tup [.str (cpW c), .int i, .tup os]) = (sizeW (cpW c) os.length : Int) := if_neg e
    rw [e2] at q
    exact q _ s'
abbrev sSizeE : Stmt := topS 17
theorem scSizeE : FnScope ["body", "member"] ["body"] (defScope sSizeE) := ⟨rfl, rfl, rfl, by decide +kernel, rfl, by decide +kernel, by decide +kernel⟩
def spSizeE : Sp := fun vs H Q _ => ∃ (bv : V) (z : Wd) (r : List Dd) (ws : List Int) (m m' : Mc) (n : Nw), vs = [bv] ∧ (Dd.tup (.str z.str :: r)).At F0 H bv ∧ EvS z r ws m n m' ∧ ∀ H', Same H H' → Q (.int (needE (.tup (.str z.str :: r)))) H'
theorem c_sizee {f : Addr} {fd : FuncData} (T : TxtEv mg) (csize_of : C8.Cal P w K mg base 1 "size_of" (spSize K) []) (c_size_of_member : C8.Cal P w K mg base 2 "_size_of_member" spSizeM []) (F : Fun K "size_to_evaluate" "size_to_evaluate" sSizeE f fd) (b : Binds K fd ["body"] []) (hm : mg "size_to_evaluate" = some (.ref f)) : C8.Cal P w K mg base 3 "size_to_evaluate" spSizeE [] := by
  refine cal_of F hm b scSizeE (fun vs H Q E h => ?_) (fun cdv A outer s H vs Q E hr h => ?_)
  · obtain ⟨bv, z, r, ws, m, m', n, rfl, _⟩ := h
    rfl
  obtain ⟨bv, z, r, ws, m, m', n, rfl, hat, hev, q⟩ := h
  refine ⟨_, (pss_cons (ps_if (pt_cmpR op_eq (pe_ix ix_tup (pv 0) pe_int (fun _ _ => rfl)) pe_str (nomark _))
      (pss_one (ps_ret (C8.pe_c csize_of hr (by decide) rfl (pa_cons (pv 0) pa_nil))))
      pss_nil)
    (pss_cons (ps_if (pt_cmpR op_eq (pe_ix ix_tup (pv 0) pe_int (fun _ _ => rfl)) pe_str (nomark _))
      (pss_one (ps_ret (pe_callB (cr_sum rfl) rfl T.zsum PyProof.Rows.boot_sum (pa_cons (pe_lc (own := [("member", 1)]) (g := gName 1) (tt := tYes) (te := (tCall (spSizeM) [] C8.E0 (tCons (tVar 1) tNil))) rfl scSizeE.nd (pi_tup (pe_ix ix_tup (pv 0) pe_int (fun _ _ => rfl))) (blkOk_by (own := [("member", 1)]) (N := ["body", "member"]) (sc := defScope sSizeE) (by decide +kernel)) (fun _ _ _ _ _ => (pg_name (i := 1) scSizeE.nd rfl (Or.inl rfl))) (fun _ _ _ _ _ => pts_nil) (fun _ _ _ _ _ => (C8.pe_c c_size_of_member hr (by decide) rfl (pa_cons (pv 1) pa_nil)))) pa_nil))))
      pss_nil)
    (pss_one (ps_ret pe_int)))), ?_⟩
  obtain ⟨a, ys, rfl, ha, hs⟩ := head_at hat
  have no : ∀ {z : Wd}, z.str ≠ "con" → z.str ≠ "let" → ∀ r, needE (.tup (.str z.str :: r)) = 0 := fun h1 h2 r => by
    show (if _ = _ then _ else if _ = _ then _ else (0 : Int)) = 0
    rw [if_neg h1, if_neg h2]
  refine ⟨_, rfl, a, _, 0, _, rfl, rfl, SqT.of ha, at0 _ _, rfl, _, rfl, ?_⟩
  cases hev with
  | @con t os _ us _ hop hl =>
    refine iteT ?_
    obtain ⟨x, xs, rfl, hx, y, zs, rfl, ⟨oa, oxs, rfl, hoa, hos⟩, hn⟩ := hs
    refine ⟨_, rfl, .ref a, "con", os.length, rfl, ⟨a, _, rfl, ha, at0 _ _, fun _ => ⟨oa, oxs, at2 _ _ _ _, SqT.of hoa, ats_len hos⟩⟩, fun H' s' => ?_⟩
    have e2 : needE (.tup [.str "con", .int t, .tup os]) = (sizeW "con" os.length : Int) := by
      rw [needE_con, show sizeW "con" os.length = 1 + os.length from sizeW_cp true _]
      omega
    have e3 := q H' s'
    rw [show needE (.tup (.str Wd.con.str :: [.int t, .tup os])) = needE (.tup [.str "con", .int t, .tup os]) from rfl, e2] at e3
    exact e3
  | @lt ms bd _ _ cl s' hmb hl hwl =>
    show if decide (V.str "let" = V.str "con") = true then _ else _
    rw [wne (show ("let" : Str) ≠ "con" by decide +kernel)]
    refine iteF ?_
    refine ⟨_, rfl, a, _, 0, _, rfl, rfl, SqT.of ha, at0 _ _, rfl, _, rfl, ?_⟩
    refine iteT ?_
    obtain ⟨x, xs, rfl, ⟨oa, oxs, rfl, hoa, hos⟩, hn⟩ := hs
    have hol := ats_len hos
    refine ⟨_, rfl, a, _, 1, _, rfl, rfl, SqT.of ha, at1 _ _ _, oa, rfl, ⟨oxs, SqT.of hoa⟩, fun D hD => ?_⟩
    have mem : ∀ (i : Nat) (k : Dd), ms[i]? = some k → ∃ ws s c s', MbS k ws s c s' := by
      clear hos hol hoa hn
      generalize ws ++ lets m.cs.length ms.length = wz at hmb
      generalize m.ser = sz at hmb
      clear hl q hat
      induction hmb with
      | nil => intro i k e; simp at e
      | cons h1 _ ih =>
        intro i k e
        cases i with
        | zero => cases e; exact ⟨_, _, _, _, h1⟩
        | succ i => exact ih i k e
    refine lc_tup (K := K) (a := oa) (xs := oxs) (fun i G => Same H G ∧ G D = some (.lst (((ms.take i).map mbSize).map V.int))) ⟨same_new hD _, upd_same⟩ (fun i G hi ⟨h1, h2⟩ => SqT.of (h1 _ _ hoa)) ?_ ?_
    · rintro i x G hx ⟨h1, h2⟩
      obtain ⟨k, hk, hkat⟩ := ats_get hos hx
      obtain ⟨wz, sz, c, sz', hmk⟩ := mem i k hk
      have hil : i < ms.length := (List.getElem?_eq_some_iff.mp hk).1
      refine ⟨rfl, ?_⟩
      refine tYes_if ?_
      refine ⟨_, rfl, x, k, wz, sz, sz', c, rfl, hkat.keep (fr_same h1), hmk, fun G2 s2 => ⟨_, s2 _ _ h2, ?_, same_upd hD (sameT h1 s2) _, ?_⟩⟩
      · rw [List.length_map, List.length_map, List.length_take]
        exact szl (by omega)
      · rw [upd_same, take_snoc hk, List.map_append, List.map_append]
        rfl
    · rintro G ⟨h1, h2⟩
      rw [show ms.take oxs.length = ms from List.take_of_length_le (by omega)] at h2
      refine ⟨D, _, rfl, SqL.of h2, ?_⟩
      have e3 := q G h1
      rw [show needE (.tup (.str Wd.lt.str :: [.tup ms, bd])) = (ms.map mbSize).sum from needE_let] at e3
      exact e3
  | give _ =>
    show if decide (V.str "give" = V.str "con") = true then _ else _
    rw [wne (show ("give" : Str) ≠ "con" by decide +kernel)]
    refine iteF ?_
    refine ⟨_, rfl, a, _, 0, _, rfl, rfl, SqT.of ha, at0 _ _, rfl, _, rfl, ?_⟩
    show if decide (V.str "give" = V.str "let") = true then _ else _
    rw [wne (show ("give" : Str) ≠ "let" by decide +kernel)]
    refine iteF ?_
    rw [no (z := .give) (by decide +kernel) (by decide +kernel)] at q
    exact q H same_id
  | call _ _ _ =>
    show if decide (V.str "call" = V.str "con") = true then _ else _
    rw [wne (show ("call" : Str) ≠ "con" by decide +kernel)]
    refine iteF ?_
    refine ⟨_, rfl, a, _, 0, _, rfl, rfl, SqT.of ha, at0 _ _, rfl, _, rfl, ?_⟩
    show if decide (V.str "call" = V.str "let") = true then _ else _
    rw [wne (show ("call" : Str) ≠ "let" by decide +kernel)]
    refine iteF ?_
    rw [no (z := .call) (by decide +kernel) (by decide +kernel)] at q
    exact q H same_id
  | prim _ _ =>
    show if decide (V.str "prim" = V.str "con") = true then _ else _
    rw [wne (show ("prim" : Str) ≠ "con" by decide +kernel)]
    refine iteF ?_
    refine ⟨_, rfl, a, _, 0, _, rfl, rfl, SqT.of ha, at0 _ _, rfl, _, rfl, ?_⟩
    show if decide (V.str "prim" = V.str "let") = true then _ else _
    rw [wne (show ("prim" : Str) ≠ "let" by decide +kernel)]
    refine iteF ?_
    rw [no (z := .prim) (by decide +kernel) (by decide +kernel)] at q
    exact q H same_id
  | seq =>
    show if decide (V.str "seq" = V.str "con") = true then _ else _
    rw [wne (show ("seq" : Str) ≠ "con" by decide +kernel)]
    refine iteF ?_
    refine ⟨_, rfl, a, _, 0, _, rfl, rfl, SqT.of ha, at0 _ _, rfl, _, rfl, ?_⟩
    show if decide (V.str "seq" = V.str "let") = true then _ else _
    rw [wne (show ("seq" : Str) ≠ "let" by decide +kernel)]
    refine iteF ?_
    rw [no (z := .seq) (by decide +kernel) (by decide +kernel)] at q
    exact q H same_id
  | note =>
    show if decide (V.str "note" = V.str "con") = true then _ else _
    rw [wne (show ("note" : Str) ≠ "con" by decide +kernel)]
    refine iteF ?_
    refine ⟨_, rfl, a, _, 0, _, rfl, rfl, SqT.of ha, at0 _ _, rfl, _, rfl, ?_⟩
    show if decide (V.str "note" = V.str "let") = true then _ else _
    rw [wne (show ("note" : Str) ≠ "let" by decide +kernel)]
    refine iteF ?_
    rw [no (z := .note) (by decide +kernel) (by decide +kernel)] at q
    exact q H same_id
  | @ch c =>
    have n1 : chW c ≠ "con" := by cases c <;> decide +kernel
    have n2 : chW c ≠ "let" := by cases c <;> decide +kernel
    show if decide (V.str (chW c) = V.str "con") = true then _ else _
    rw [wne n1]
    refine iteF ?_
    refine ⟨_, rfl, a, _, 0, _, rfl, rfl, SqT.of ha, at0 _ _, rfl, _, rfl, ?_⟩
    show if decide (V.str (chW c) = V.str "let") = true then _ else _
    rw [wne n2]
    refine iteF ?_
    rw [no (z := .ch c) n1 n2] at q
    exact q H same_id
abbrev sMemCell : Stmt := topS 30
theorem scMemCell : FnScope ["machine", "member", "words", "_", "operands", "body", "serial"] ["machine", "member", "words"] (defScope sMemCell) := ⟨rfl, rfl, rfl, by decide +kernel, rfl, by decide +kernel, by decide +kernel⟩
def spMemCell (CM CH : Addr) : Sp := fun vs H Q _ => ∃ (p : Pl) (m : Mc) (nv kv wv : V) (co s' : Int) (k : Dd) (ws : List Int) (c : Cl), vs = [.ref p.mo, kv, wv] ∧ MkAt CM CH H p m nv co ∧ k.At F0 H kv ∧ (wsD ws).At F0 H wv ∧ MbS k ws m.ser c s' ∧ ∀ (v' : V) (H' : Hp), KeepM p H H' → MkAt CM CH H' p { m with ser := s' } nv co → c.D.At F0 H' v' → Q v' H'
theorem c_memcell {f : Addr} {fd : FuncData} (TM : TxtMk K CM) (c_words_of : C8.Cal P w K mg base 2 "_words_of" spWordsOf []) (F : Fun K "_member_cell" "_member_cell" sMemCell f fd) (b : Binds K fd ["machine", "member", "words"] []) (hm : mg "_member_cell" = some (.ref f)) : C8.Cal P w K mg base 3 "_member_cell" (spMemCell CM CH) [] := by
  refine cal_of F hm b scMemCell (fun vs H Q E h => ?_) (fun cdv A outer s H vs Q E hr h => ?_)
  · obtain ⟨p, m, nv, kv, wv, co, s', k, ws, c, rfl, _⟩ := h
    rfl
  obtain ⟨p, m, nv, kv, wv, co, s', k, ws, c, rfl, M, hat, hws, hmb, q⟩ := h
  refine ⟨_, (pss_cons (ps_if (pt_cmpR op_ne (pe_ix ix_tup (pv 1) pe_int (fun _ _ => rfl)) pe_str (nomark _))
      (pss_one (ps_ret (pe_tup (pa_cons (pe_ix ix_tup (pv 1) pe_int (fun _ _ => rfl)) (pa_cons (pe_ix ix_tup (pv 1) pe_int (fun _ _ => rfl)) (pa_cons (C8.pe_c c_words_of hr (by decide) rfl (pa_cons (pe_ix ix_tup (pv 1) pe_int (fun _ _ => rfl)) (pa_cons (pv 2) pa_nil))) pa_nil))))))
      pss_nil)
    (pss_cons (ps_asg (pv 1) (pg_tup rfl (pgs_cons (pg_name (i := 3) scMemCell.nd rfl (Or.inl rfl)) (pgs_cons (pg_name (i := 4) scMemCell.nd rfl (Or.inl rfl)) (pgs_cons (pg_name (i := 5) scMemCell.nd rfl (Or.inl rfl)) pgs_nil)))))
    (pss_cons (ps_set (i := 6) scMemCell.nd rfl (Or.inl rfl) (pe_fld (pv 0) rfl))
    (pss_cons (ps_fldaug (pv 0) pe_int ip_add)
    (pss_one (ps_ret (pe_tup (pa_cons pe_str (pa_cons (pv 5) (pa_cons (C8.pe_c c_words_of hr (by decide) rfl (pa_cons (pv 4) (pa_cons (pv 2) pa_nil))) (pa_cons (pv 6) pa_nil))))))))))), ?_⟩
  obtain ⟨dx, ho⟩ := M.o
  generalize hsr : m.ser = sr at hmb
  cases hmb with
  | @lat os bd _ us _ hop hl =>
    obtain ⟨a, xs, rfl, ha, x, ys, rfl, ⟨rfl, _⟩, y, zs, rfl, hy, z, ts, rfl, hz, hn⟩ := hat
    cases (show ts = [] from hn)
    refine ⟨_, rfl, a, _, 0, _, rfl, rfl, SqT.of ha, at0 _ _, rfl, _, rfl, ?_⟩
    refine iteF ?_
    refine ⟨_, rfl, a, _, rfl, SqT.of ha, rfl, _, _, rfl, _, _, rfl, _, _, rfl, rfl, ?_⟩
    refine ⟨_, rfl, p.mo, CM, dx, _, .int m.ser, rfl, ho, TM.cl, TM.n_serial, fM_serial .., ?_⟩
    refine ⟨_, rfl, p.mo, CM, dx, _, .int m.ser, rfl, ho, TM.cl, TM.n_serial, fM_serial .., m.ser, 1, rfl, rfl, dx, _, ho, fM_len .., ?_⟩
    rw [fM_put_serial]
    obtain ⟨M1, k1, f1⟩ := M.own ho (m.ser + 1) nv co
    have ha1 := f1.1 _ _ ha
    generalize upd H p.mo (.ins CM dx (fM p.fv p.ho (m.ser + 1) p.sa nv p.ea p.na co)) = H1 at M1 k1 f1 ha1 ⊢
    refine ⟨_, rfl, _, rfl, _, rfl, y, wv, os, ws, us, rfl, hy.keep f1, hws.keep f1, hop, hl, fun t H2 s2 ht => ⟨_, rfl, by show 4 ≤ sizeLine; decide, fun u hu => ?_⟩⟩
    have s3 := same_new hu (.tup [.str "later", z, .ref t, .int m.ser])
    refine q _ _ ((k1.trans (KeepM.same s2)).trans (KeepM.same s3)) (by rw [← hsr]; exact (M1.same s2).same s3) ?_
    rw [← hsr]
    exact at_tup upd_same (ats_cons (at_str' (by decide +kernel)) (ats_cons (((hz.keep f1).keep (fr_same s2)).keep (fr_same s3)) (ats_cons (ws_of (s3 _ _ ht)) (ats_cons rfl ats_nil))))
  | @cp c i os _ us _ hop hl =>
    obtain ⟨a, xs, rfl, ha, x, ys, rfl, ⟨rfl, _⟩, y, zs, rfl, hy, z, ts, rfl, hz, hn⟩ := hat
    cases (show y = .int i from hy)
    have e : cpW c ≠ "later" := by cases c <;> decide +kernel
    refine ⟨_, rfl, a, _, 0, _, rfl, rfl, SqT.of ha, at0 _ _, rfl, _, rfl, ?_⟩
    show if (!decide (V.str (cpW c) = V.str "later")) = true then _ else _
    rw [wne e]
    refine iteT ?_
    refine ⟨_, rfl, a, _, 0, _, rfl, rfl, SqT.of ha, at0 _ _, _, rfl, a, _, 1, _, rfl, rfl, SqT.of ha, at1 _ _ _, _, rfl, a, _, 2, _, rfl, rfl, SqT.of ha, at2 _ _ _ _, _, rfl, z, wv, os, ws, us, rfl, hz, hws, hop, hl, fun t H2 s2 ht => ⟨by show 3 ≤ sizeLine; decide, fun u hu => ?_⟩⟩
    have s3 := same_new hu (.tup [.str (cpW c), .int i, .ref t])
    refine q _ _ ((KeepM.same s2).trans (KeepM.same s3)) (by rw [← hsr]; exact (M.same s2).same s3) ?_
    rw [cpC_D]
    exact at_tup upd_same (ats_cons (at_str' (by cases c <;> decide +kernel)) (ats_cons rfl (ats_cons (ws_of (s3 _ _ ht)) ats_nil)))
end
end Toy

set_option Elab.async false
set_option linter.all false
set_option maxRecDepth 100000
set_option maxHeartbeats 4000000
/-! Part H: evaluating, word by word. -/
namespace Toy
open PySem L2
open PyProof.Rows (envOfC)
section
variable {P : Program} {w : World} {K : PySem.W.Frag} {mg : Str → Option Value} {base : Heap} {CM CH : Addr}
/-- a body with this word is evaluated -/
def spEv (K : PySem.W.Frag) (CM CH : Addr) (z : Wd) : Sp := fun vs H Q _ => ∃ (p : Pl) (m m' : Mc) (nv bv wv : V) (co : Int) (r : List Dd) (ws : List Int) (n : Nw), vs = [.ref p.mo, bv, wv] ∧ MkAt CM CH H p m nv co ∧ (Dd.tup (.str z.str :: r)).At F0 H bv ∧ (wsD ws).At F0 H wv ∧ EvS z r ws m n m' ∧ m.small ∧
  ∀ (v' : V) (H' : Hp), KeepM p H H' → MkAt CM CH H' p m' nv co → NwAt K H' n v' → Q v' H'
def spEvC (K : PySem.W.Frag) (CM CH : Addr) : Sp := fun vs H Q E => ∃ c : Bool, spEv K CM CH (.ch c) vs H Q E
theorem drop_at {α : Type} {l : List α} {i : Nat} {q : α} (h : l[i]? = some q) : l.drop i = q :: l.drop (i + 1) := by
  obtain ⟨h1, h2⟩ := List.getElem?_eq_some_iff.mp h
  rw [← h2]
  exact List.drop_eq_getElem_cons h1
theorem MbsS.head {k : Dd} {ks : List Dd} {ws : List Int} {s s' : Int} {c : Cl} {cs : List Cl} (h : MbsS (k :: ks) ws s (c :: cs) s') : ∃ sj, MbS k ws s c sj ∧ MbsS ks ws sj cs s' := by
  cases h with
  | cons h1 h2 => exact ⟨_, h1, h2⟩
/-- a list with one more -/
theorem stk_len {CM CH : Addr} {H : Hp} {p : Pl} {m : Mc} {nv : V} {co : Int} (M : MkAt CM CH H p m nv co) (hs : m.small) : ∃ xs, H p.sa = some (.lst xs) ∧ xs.length < sizeLine := by
  obtain ⟨xs, h1, h2⟩ := M.s
  have := ats_len h2
  rw [List.length_map] at this
  have h3 := hs.s
  exact ⟨xs, h1, szl (by omega)⟩
theorem evs_len {CM CH : Addr} {H : Hp} {p : Pl} {m : Mc} {nv : V} {co : Int} (M : MkAt CM CH H p m nv co) (hs : m.small) : ∃ xs, H p.ea = some (.lst xs) ∧ xs.length < sizeLine := by
  obtain ⟨xs, h1, h2⟩ := M.e
  have := ats_len h2
  rw [List.length_map] at this
  have h3 := hs.e
  exact ⟨xs, h1, szl (by omega)⟩
abbrev sEvGive : Stmt := topS 19
theorem scEvGive : FnScope ["machine", "body", "words"] ["machine", "body", "words"] (defScope sEvGive) := ⟨rfl, rfl, rfl, by decide +kernel, rfl, by decide +kernel, by decide +kernel⟩
theorem c_evaluate_give {f : Addr} {fd : FuncData} (TM : TxtMk K CM) (cword_of : C8.Cal P w K mg base 1 "word_of" spWordOf []) (F : Fun K "_evaluate_give" "_evaluate_give" sEvGive f fd) (b : Binds K fd ["machine", "body", "words"] []) (hm : mg "_evaluate_give" = some (.ref f)) : C8.Cal P w K mg base 4 "_evaluate_give" (spEv K CM CH .give) [] := by
  refine cal_of F hm b scEvGive (fun vs H Q E h => ?_) (fun cdv A outer s H vs Q E hr h => ?_)
  · obtain ⟨p, m, m', nv, bv, wv, co, r, ws, n, rfl, _⟩ := h
    rfl
  obtain ⟨p, m, m', nv, bv, wv, co, r, ws, n, rfl, M, hat, hws, hev, hsm, q⟩ := h
  refine ⟨_, (pss_one (ps_ret (pe_tup (pa_cons pe_str (pa_cons (C8.pe_c cword_of hr (by decide) rfl (pa_cons (pe_ix ix_tup (pv 1) pe_int (fun _ _ => rfl)) (pa_cons (pv 2) pa_nil))) pa_nil))))), ?_⟩
  obtain ⟨a, ys, rfl, ha, hs⟩ := head_at hat
  obtain ⟨dx, ho⟩ := M.o
  obtain ⟨⟨dy, hho⟩, _⟩ := id M.h
  obtain ⟨wa, rfl, hwa⟩ := ws_at hws
  cases hev with
  | @give o1 _ _ x hop =>
    obtain ⟨y1, zs, rfl, hy1, hn⟩ := hs
    refine ⟨_, rfl, a, _, 1, _, rfl, rfl, SqT.of ha, at1 _ _ _, _, rfl, y1, .ref wa, o1, ws, x, rfl, hy1, hws, hop, by show 2 ≤ sizeLine; decide, fun t ht => ?_⟩
    have s1 := same_new ht (.tup [.str "enter", .int x])
    exact q _ _ (KeepM.same s1) (M.same s1) (at_tup upd_same (ats_cons (at_str' (by decide +kernel)) (ats_cons rfl ats_nil)))
abbrev sEvCall : Stmt := topS 20
theorem scEvCall : FnScope ["machine", "body", "words"] ["machine", "body", "words"] (defScope sEvCall) := ⟨rfl, rfl, rfl, by decide +kernel, rfl, by decide +kernel, by decide +kernel⟩
theorem c_evaluate_call {f : Addr} {fd : FuncData} (TM : TxtMk K CM) (cword_of : C8.Cal P w K mg base 1 "word_of" spWordOf []) (c_words_of : C8.Cal P w K mg base 2 "_words_of" spWordsOf []) (F : Fun K "_evaluate_call" "_evaluate_call" sEvCall f fd) (b : Binds K fd ["machine", "body", "words"] []) (hm : mg "_evaluate_call" = some (.ref f)) : C8.Cal P w K mg base 4 "_evaluate_call" (spEv K CM CH .call) [] := by
  refine cal_of F hm b scEvCall (fun vs H Q E h => ?_) (fun cdv A outer s H vs Q E hr h => ?_)
  · obtain ⟨p, m, m', nv, bv, wv, co, r, ws, n, rfl, _⟩ := h
    rfl
  obtain ⟨p, m, m', nv, bv, wv, co, r, ws, n, rfl, M, hat, hws, hev, hsm, q⟩ := h
  refine ⟨_, (pss_cons (ps_expr (pe_bm PySem.F.plainAttrs_list PySem.F.slot_list_append PySem.F.type_list_append mt_append (pe_fld (pv 0) rfl) (pa_cons (pe_tup (pa_cons pe_str (pa_cons (C8.pe_c c_words_of hr (by decide) rfl (pa_cons (pe_ix ix_tup (pv 1) pe_int (fun _ _ => rfl)) (pa_cons (pv 2) pa_nil))) pa_nil))) pa_nil)))
    (pss_one (ps_ret (pe_tup (pa_cons pe_str (pa_cons (C8.pe_c cword_of hr (by decide) rfl (pa_cons (pe_ix ix_tup (pv 1) pe_int (fun _ _ => rfl)) (pa_cons (pv 2) pa_nil))) pa_nil)))))), ?_⟩
  obtain ⟨a, ys, rfl, ha, hs⟩ := head_at hat
  obtain ⟨dx, ho⟩ := M.o
  obtain ⟨⟨dy, hho⟩, _⟩ := id M.h
  obtain ⟨wa, rfl, hwa⟩ := ws_at hws
  cases hev with
  | @call o1 os _ us _ x hop hops hl =>
    obtain ⟨y1, zs, rfl, hy1, y2, zs2, rfl, hy2, hn⟩ := hs
    obtain ⟨ss, hss, hsz⟩ := stk_len M hsm
    refine ⟨_, rfl, p.mo, CM, dx, _, .ref p.sa, rfl, ho, TM.cl, TM.n_stack, fM_stack .., .inl ⟨rfl, _, SqL.of hss⟩, _, rfl, a, _, 2, _, rfl, rfl, SqT.of ha, at2 _ _ _ _, _, rfl, y2, .ref wa, os, ws, us, rfl, hy2, hws, hops, hl, fun t1 H1 s1 ht1 => ⟨by show 2 ≤ sizeLine; decide, fun t2 ht2 => ?_⟩⟩
    have s2 := same_new ht2 (.tup [.str "apply", .ref t1])
    have s12 := sameT s1 s2
    have hv : (Fm.apply us).D.At F0 (upd H1 t2 (.tup [.str "apply", .ref t1])) (.ref t2) := at_tup upd_same (ats_cons (at_str' (by decide +kernel)) (ats_cons (ws_of (s2 _ _ ht1)) ats_nil))
    generalize upd H1 t2 (.tup [.str "apply", .ref t1]) = H2 at s2 s12 hv ⊢
    refine ⟨p.sa, _, _, rfl, rfl, s12 _ _ hss, hsz, ?_⟩
    obtain ⟨M3, k3, f3⟩ := (M.same s12).push (s12 _ _ hss) hv
    generalize upd H2 p.sa (.lst (ss ++ [.ref t2])) = H3 at M3 k3 f3 ⊢
    have fA : Fr F0 H H3 := (fr_same s12).trans f3
    refine ⟨_, rfl, a, _, 1, _, rfl, rfl, SqT.of (fA.1 _ _ ha), at1 _ _ _, _, rfl, y1, .ref wa, o1, ws, x, rfl, hy1.keep fA, hws.keep fA, hop, by show 2 ≤ sizeLine; decide, fun t ht => ?_⟩
    have s4 := same_new ht (.tup [.str "enter", .int x])
    exact q _ _ (((KeepM.same s12).trans k3).trans (KeepM.same s4)) (M3.same s4) (at_tup upd_same (ats_cons (at_str' (by decide +kernel)) (ats_cons rfl ats_nil)))
abbrev sEvCon : Stmt := topS 21
theorem scEvCon : FnScope ["machine", "body", "words"] ["machine", "body", "words"] (defScope sEvCon) := ⟨rfl, rfl, rfl, by decide +kernel, rfl, by decide +kernel, by decide +kernel⟩
theorem c_evaluate_con {f : Addr} {fd : FuncData} (TM : TxtMk K CM) (c_words_of : C8.Cal P w K mg base 2 "_words_of" spWordsOf []) (cmake : C8.Met P w K mg base 2 CH "make" (spMake CH) []) (F : Fun K "_evaluate_con" "_evaluate_con" sEvCon f fd) (b : Binds K fd ["machine", "body", "words"] []) (hm : mg "_evaluate_con" = some (.ref f)) : C8.Cal P w K mg base 4 "_evaluate_con" (spEv K CM CH .con) [] := by
  refine cal_of F hm b scEvCon (fun vs H Q E h => ?_) (fun cdv A outer s H vs Q E hr h => ?_)
  · obtain ⟨p, m, m', nv, bv, wv, co, r, ws, n, rfl, _⟩ := h
    rfl
  obtain ⟨p, m, m', nv, bv, wv, co, r, ws, n, rfl, M, hat, hws, hev, hsm, q⟩ := h
  refine ⟨_, (pss_one (ps_ret (pe_tup (pa_cons pe_str (pa_cons (pe_op op_mul pe_int (C8.pe_mt cmake hr (by decide) (pe_fld (pv 0) rfl) (pa_cons (pe_tup (pa_cons pe_str (pa_cons (pe_ix ix_tup (pv 1) pe_int (fun _ _ => rfl)) (pa_cons (C8.pe_c c_words_of hr (by decide) rfl (pa_cons (pe_ix ix_tup (pv 1) pe_int (fun _ _ => rfl)) (pa_cons (pv 2) pa_nil))) pa_nil)))) pa_nil))) pa_nil))))), ?_⟩
  obtain ⟨a, ys, rfl, ha, hs⟩ := head_at hat
  obtain ⟨dx, ho⟩ := M.o
  obtain ⟨⟨dy, hho⟩, _⟩ := id M.h
  obtain ⟨wa, rfl, hwa⟩ := ws_at hws
  cases hev with
  | @con t0 os _ us _ hops hl =>
    obtain ⟨y1, zs, rfl, hy1, y2, zs2, rfl, hy2, hn⟩ := hs
    cases (show y1 = .int t0 from hy1)
    refine ⟨_, rfl, p.mo, CM, dx, _, .ref p.ho, rfl, ho, TM.cl, TM.n_heap, fM_heap .., p.ho, dy, _, rfl, hho, fldH_no_make .., _, rfl, a, _, 1, _, rfl, rfl, SqT.of ha, at1 _ _ _, _, rfl, a, _, 2, _, rfl, rfl, SqT.of ha, at2 _ _ _ _, _, rfl, y2, .ref wa, os, ws, us, rfl, hy2, hws, hops, hl, fun t1 H1 s1 ht1 => ⟨by show 3 ≤ sizeLine; decide, fun t2 ht2 => ?_⟩⟩
    have s2 := same_new ht2 (.tup [.str "con", .int t0, .ref t1])
    have s12 := sameT s1 s2
    have hv : (Cl.con t0 us).D.At F0 (upd H1 t2 (.tup [.str "con", .int t0, .ref t1])) (.ref t2) := at_tup upd_same (ats_cons (at_str' (by decide +kernel)) (ats_cons rfl (ats_cons (ws_of (s2 _ _ ht1)) ats_nil)))
    generalize upd H1 t2 (.tup [.str "con", .int t0, .ref t1]) = H2 at s2 s12 hv ⊢
    have M2 := M.same s12
    refine ⟨p, m.cs, _, .con t0 us, rfl, M2.h, M2.ok.2.2.2.2.2.1, hv, Nat.le_trans hsm.c (by decide), fun H3 k3 h3 => ?_⟩
    obtain ⟨M3, km3, f3⟩ := M2.cells h3 k3
    refine ⟨_, _, rfl, rfl, .inl ⟨by decide, by decide⟩, by show 2 ≤ sizeLine; decide, fun t ht => ?_⟩
    have s4 := same_new ht (.tup [.str "value", .int (2 * (m.cs.length : Int))])
    exact q _ _ (((KeepM.same s12).trans km3).trans (KeepM.same s4)) (M3.same s4) (at_tup upd_same (ats_cons (at_str' (by decide +kernel)) (ats_cons rfl ats_nil)))
abbrev sEvPrim : Stmt := topS 22
theorem scEvPrim : FnScope ["machine", "body", "words", "_", "sign", "one", "other"] ["machine", "body", "words"] (defScope sEvPrim) := ⟨rfl, rfl, rfl, by decide +kernel, rfl, by decide +kernel, by decide +kernel⟩
theorem c_evaluate_prim {f : Addr} {fd : FuncData} (TM : TxtMk K CM) (cword_of : C8.Cal P w K mg base 1 "word_of" spWordOf []) (F : Fun K "_evaluate_prim" "_evaluate_prim" sEvPrim f fd) (b : Binds K fd ["machine", "body", "words"] []) (hm : mg "_evaluate_prim" = some (.ref f)) : C8.Cal P w K mg base 4 "_evaluate_prim" (spEv K CM CH .prim) [] := by
  refine cal_of F hm b scEvPrim (fun vs H Q E h => ?_) (fun cdv A outer s H vs Q E hr h => ?_)
  · obtain ⟨p, m, m', nv, bv, wv, co, r, ws, n, rfl, _⟩ := h
    rfl
  obtain ⟨p, m, m', nv, bv, wv, co, r, ws, n, rfl, M, hat, hws, hev, hsm, q⟩ := h
  refine ⟨_, (pss_cons (ps_asg (pv 1) (pg_tup rfl (pgs_cons (pg_name (i := 3) scEvPrim.nd rfl (Or.inl rfl)) (pgs_cons (pg_name (i := 4) scEvPrim.nd rfl (Or.inl rfl)) (pgs_cons (pg_name (i := 5) scEvPrim.nd rfl (Or.inl rfl)) (pgs_cons (pg_name (i := 6) scEvPrim.nd rfl (Or.inl rfl)) pgs_nil))))))
    (pss_cons (ps_expr (pe_bm PySem.F.plainAttrs_list PySem.F.slot_list_append PySem.F.type_list_append mt_append (pe_fld (pv 0) rfl) (pa_cons (pe_tup (pa_cons pe_str (pa_cons (pv 4) (pa_cons (pv 6) (pa_cons (pv 2) pa_nil))))) pa_nil)))
    (pss_one (ps_ret (pe_tup (pa_cons pe_str (pa_cons (C8.pe_c cword_of hr (by decide) rfl (pa_cons (pv 5) (pa_cons (pv 2) pa_nil))) pa_nil))))))), ?_⟩
  obtain ⟨a, ys, rfl, ha, hs⟩ := head_at hat
  obtain ⟨dx, ho⟩ := M.o
  obtain ⟨⟨dy, hho⟩, _⟩ := id M.h
  obtain ⟨wa, rfl, hwa⟩ := ws_at hws
  cases hev with
  | @prim z o1 o2 _ _ x hop hz =>
    obtain ⟨y1, zs, rfl, ⟨rfl, _⟩, y2, zs2, rfl, hy2, y3, zs3, rfl, hy3, hn⟩ := hs
    cases (show zs3 = [] from hn)
    obtain ⟨ss, hss, hsz⟩ := stk_len M hsm
    refine ⟨_, rfl, a, _, rfl, SqT.of ha, rfl, _, _, rfl, _, _, rfl, _, _, rfl, _, _, rfl, rfl, ?_⟩
    refine ⟨_, rfl, p.mo, CM, dx, _, .ref p.sa, rfl, ho, TM.cl, TM.n_stack, fM_stack .., .inl ⟨rfl, _, SqL.of hss⟩, _, rfl, _, rfl, _, rfl, by show 4 ≤ sizeLine; decide, fun t2 ht2 => ?_⟩
    have s2 := same_new ht2 (.tup [.str "right", .str z, y3, .ref wa])
    have hv : (Fm.right z o2 ws).D.At F0 (upd H t2 (.tup [.str "right", .str z, y3, .ref wa])) (.ref t2) := at_tup upd_same (ats_cons (at_str' (by decide +kernel)) (ats_cons (at_str' hz) (ats_cons (hy3.keep (fr_same s2)) (ats_cons (ws_of (s2 _ _ hwa)) ats_nil))))
    generalize upd H t2 (.tup [.str "right", .str z, y3, .ref wa]) = H2 at s2 hv ⊢
    refine ⟨p.sa, _, _, rfl, rfl, s2 _ _ hss, hsz, ?_⟩
    obtain ⟨M3, k3, f3⟩ := (M.same s2).push (s2 _ _ hss) hv
    generalize upd H2 p.sa (.lst (ss ++ [.ref t2])) = H3 at M3 k3 f3 ⊢
    have fA : Fr F0 H H3 := (fr_same s2).trans f3
    refine ⟨_, rfl, _, rfl, y2, .ref wa, o1, ws, x, rfl, hy2.keep fA, hws.keep fA, hop, by show 2 ≤ sizeLine; decide, fun t ht => ?_⟩
    have s4 := same_new ht (.tup [.str "enter", .int x])
    exact q _ _ (((KeepM.same s2).trans k3).trans (KeepM.same s4)) (M3.same s4) (at_tup upd_same (ats_cons (at_str' (by decide +kernel)) (ats_cons rfl ats_nil)))
abbrev sEvSeq : Stmt := topS 24
theorem scEvSeq : FnScope ["machine", "body", "words"] ["machine", "body", "words"] (defScope sEvSeq) := ⟨rfl, rfl, rfl, by decide +kernel, rfl, by decide +kernel, by decide +kernel⟩
theorem c_evaluate_seq {f : Addr} {fd : FuncData} (TM : TxtMk K CM)  (F : Fun K "_evaluate_seq" "_evaluate_seq" sEvSeq f fd) (b : Binds K fd ["machine", "body", "words"] []) (hm : mg "_evaluate_seq" = some (.ref f)) : C8.Cal P w K mg base 4 "_evaluate_seq" (spEv K CM CH .seq) [] := by
  refine cal_of F hm b scEvSeq (fun vs H Q E h => ?_) (fun cdv A outer s H vs Q E hr h => ?_)
  · obtain ⟨p, m, m', nv, bv, wv, co, r, ws, n, rfl, _⟩ := h
    rfl
  obtain ⟨p, m, m', nv, bv, wv, co, r, ws, n, rfl, M, hat, hws, hev, hsm, q⟩ := h
  refine ⟨_, (pss_cons (ps_expr (pe_bm PySem.F.plainAttrs_list PySem.F.slot_list_append PySem.F.type_list_append mt_append (pe_fld (pv 0) rfl) (pa_cons (pe_tup (pa_cons pe_str (pa_cons (pe_ix ix_tup (pv 1) pe_int (fun _ _ => rfl)) (pa_cons (pv 2) pa_nil)))) pa_nil)))
    (pss_one (ps_ret (pe_tup (pa_cons pe_str (pa_cons (pe_ix ix_tup (pv 1) pe_int (fun _ _ => rfl)) (pa_cons (pv 2) pa_nil))))))), ?_⟩
  obtain ⟨a, ys, rfl, ha, hs⟩ := head_at hat
  obtain ⟨dx, ho⟩ := M.o
  obtain ⟨⟨dy, hho⟩, _⟩ := id M.h
  obtain ⟨wa, rfl, hwa⟩ := ws_at hws
  cases hev with
  | @seq a1 b1 _ _ =>
    obtain ⟨y1, zs, rfl, hy1, y2, zs2, rfl, hy2, hn⟩ := hs
    obtain ⟨ss, hss, hsz⟩ := stk_len M hsm
    refine ⟨_, rfl, p.mo, CM, dx, _, .ref p.sa, rfl, ho, TM.cl, TM.n_stack, fM_stack .., .inl ⟨rfl, _, SqL.of hss⟩, _, rfl, a, _, 2, _, rfl, rfl, SqT.of ha, at2 _ _ _ _, _, rfl, by show 3 ≤ sizeLine; decide, fun t2 ht2 => ?_⟩
    have s2 := same_new ht2 (.tup [.str "seq", y2, .ref wa])
    have hv : (Fm.seq b1 ws).D.At F0 (upd H t2 (.tup [.str "seq", y2, .ref wa])) (.ref t2) := at_tup upd_same (ats_cons (at_str' (by decide +kernel)) (ats_cons (hy2.keep (fr_same s2)) (ats_cons (ws_of (s2 _ _ hwa)) ats_nil)))
    generalize upd H t2 (.tup [.str "seq", y2, .ref wa]) = H2 at s2 hv ⊢
    refine ⟨p.sa, _, _, rfl, rfl, s2 _ _ hss, hsz, ?_⟩
    obtain ⟨M3, k3, f3⟩ := (M.same s2).push (s2 _ _ hss) hv
    generalize upd H2 p.sa (.lst (ss ++ [.ref t2])) = H3 at M3 k3 f3 ⊢
    have fA : Fr F0 H H3 := (fr_same s2).trans f3
    refine ⟨_, rfl, a, _, 1, _, rfl, rfl, SqT.of (fA.1 _ _ ha), at1 _ _ _, _, rfl, by show 3 ≤ sizeLine; decide, fun t ht => ?_⟩
    have s4 := same_new ht (.tup [.str "eval", y1, .ref wa])
    exact q _ _ (((KeepM.same s2).trans k3).trans (KeepM.same s4)) (M3.same s4) (at_tup upd_same (ats_cons (at_str' (by decide +kernel)) (ats_cons ((hy1.keep fA).keep (fr_same s4)) (ats_cons ((hws.keep fA).keep (fr_same s4)) ats_nil))))
abbrev sEvChoice : Stmt := topS 25
theorem scEvChoice : FnScope ["machine", "body", "words", "word", "first", "alternatives", "default"] ["machine", "body", "words"] (defScope sEvChoice) := ⟨rfl, rfl, rfl, by decide +kernel, rfl, by decide +kernel, by decide +kernel⟩
theorem c_evaluate_choice {f : Addr} {fd : FuncData} (TM : TxtMk K CM)  (F : Fun K "_evaluate_choice" "_evaluate_choice" sEvChoice f fd) (b : Binds K fd ["machine", "body", "words"] []) (hm : mg "_evaluate_choice" = some (.ref f)) : C8.Cal P w K mg base 4 "_evaluate_choice" (spEvC K CM CH) [] := by
  refine cal_of F hm b scEvChoice (fun vs H Q E h => ?_) (fun cdv A outer s H vs Q E hr h => ?_)
  · obtain ⟨c0, p, m, m', nv, bv, wv, co, r, ws, n, rfl, _⟩ := h
    rfl
  obtain ⟨c0, p, m, m', nv, bv, wv, co, r, ws, n, rfl, M, hat, hws, hev, hsm, q⟩ := h
  refine ⟨_, (pss_cons (ps_asg (pv 1) (pg_tup rfl (pgs_cons (pg_name (i := 3) scEvChoice.nd rfl (Or.inl rfl)) (pgs_cons (pg_name (i := 4) scEvChoice.nd rfl (Or.inl rfl)) (pgs_cons (pg_name (i := 5) scEvChoice.nd rfl (Or.inl rfl)) (pgs_cons (pg_name (i := 6) scEvChoice.nd rfl (Or.inl rfl)) pgs_nil))))))
    (pss_cons (ps_expr (pe_bm PySem.F.plainAttrs_list PySem.F.slot_list_append PySem.F.type_list_append mt_append (pe_fld (pv 0) rfl) (pa_cons (pe_tup (pa_cons (pv 3) (pa_cons (pv 5) (pa_cons (pv 6) (pa_cons (pv 2) pa_nil))))) pa_nil)))
    (pss_one (ps_ret (pe_tup (pa_cons pe_str (pa_cons (pv 4) (pa_cons (pv 2) pa_nil)))))))), ?_⟩
  obtain ⟨a, ys, rfl, ha, hs⟩ := head_at hat
  obtain ⟨dx, ho⟩ := M.o
  obtain ⟨⟨dy, hho⟩, _⟩ := id M.h
  obtain ⟨wa, rfl, hwa⟩ := ws_at hws
  cases hev with
  | @ch _ a1 d1 rows _ _ =>
    obtain ⟨y1, zs, rfl, hy1, y2, zs2, rfl, hy2, y3, zs3, rfl, hy3, hn⟩ := hs
    cases (show zs3 = [] from hn)
    obtain ⟨ss, hss, hsz⟩ := stk_len M hsm
    have hcl : (chW c0).length ≤ 1000 := by cases c0 <;> decide +kernel
    refine ⟨_, rfl, a, _, rfl, SqT.of ha, rfl, _, _, rfl, _, _, rfl, _, _, rfl, _, _, rfl, rfl, ?_⟩
    refine ⟨_, rfl, p.mo, CM, dx, _, .ref p.sa, rfl, ho, TM.cl, TM.n_stack, fM_stack .., .inl ⟨rfl, _, SqL.of hss⟩, _, rfl, _, rfl, _, rfl, _, rfl, by show 4 ≤ sizeLine; decide, fun t2 ht2 => ?_⟩
    have s2 := same_new ht2 (.tup [.str (chW c0), y2, y3, .ref wa])
    have hv : (Fm.ch c0 rows d1 ws).D.At F0 (upd H t2 (.tup [.str (chW c0), y2, y3, .ref wa])) (.ref t2) := at_tup upd_same (ats_cons (at_str' hcl) (ats_cons (hy2.keep (fr_same s2)) (ats_cons (hy3.keep (fr_same s2)) (ats_cons (ws_of (s2 _ _ hwa)) ats_nil))))
    show ∃ l x xs, _
    refine ⟨p.sa, _, _, rfl, rfl, s2 _ _ hss, hsz, ?_⟩
    obtain ⟨M3, k3, f3⟩ := (M.same s2).push (s2 _ _ hss) hv
    have fA : Fr F0 H _ := (fr_same s2).trans f3
    refine ⟨_, rfl, _, rfl, by show 3 ≤ sizeLine; decide, fun t ht => ?_⟩
    have s4 := same_new ht (.tup [.str "eval", y1, .ref wa])
    exact q _ _ (((KeepM.same s2).trans k3).trans (KeepM.same s4)) (M3.same s4) (at_tup upd_same (ats_cons (at_str' (by decide +kernel)) (ats_cons ((hy1.keep fA).keep (fr_same s4)) (ats_cons ((hws.keep fA).keep (fr_same s4)) ats_nil))))
abbrev sEvNote : Stmt := topS 26
theorem scEvNote : FnScope ["machine", "body", "words"] ["machine", "body", "words"] (defScope sEvNote) := ⟨rfl, rfl, rfl, by decide +kernel, rfl, by decide +kernel, by decide +kernel⟩
theorem c_evaluate_note {f : Addr} {fd : FuncData} (TM : TxtMk K CM)  (F : Fun K "_evaluate_note" "_evaluate_note" sEvNote f fd) (b : Binds K fd ["machine", "body", "words"] []) (hm : mg "_evaluate_note" = some (.ref f)) : C8.Cal P w K mg base 4 "_evaluate_note" (spEv K CM CH .note) [] := by
  refine cal_of F hm b scEvNote (fun vs H Q E h => ?_) (fun cdv A outer s H vs Q E hr h => ?_)
  · obtain ⟨p, m, m', nv, bv, wv, co, r, ws, n, rfl, _⟩ := h
    rfl
  obtain ⟨p, m, m', nv, bv, wv, co, r, ws, n, rfl, M, hat, hws, hev, hsm, q⟩ := h
  refine ⟨_, (pss_cons (ps_expr (pe_bm PySem.F.plainAttrs_list PySem.F.slot_list_append PySem.F.type_list_append mt_append (pe_fld (pv 0) rfl) (pa_cons (pe_tup (pa_cons pe_str (pa_cons (pe_ix ix_tup (pv 1) pe_int (fun _ _ => rfl)) pa_nil))) pa_nil)))
    (pss_one (ps_ret (pe_tup (pa_cons pe_str (pa_cons (pe_ix ix_tup (pv 1) pe_int (fun _ _ => rfl)) (pa_cons (pv 2) pa_nil))))))), ?_⟩
  obtain ⟨a, ys, rfl, ha, hs⟩ := head_at hat
  obtain ⟨dx, ho⟩ := M.o
  obtain ⟨⟨dy, hho⟩, _⟩ := id M.h
  obtain ⟨wa, rfl, hwa⟩ := ws_at hws
  cases hev with
  | @note i b1 _ _ =>
    obtain ⟨y1, zs, rfl, hy1, y2, zs2, rfl, hy2, hn⟩ := hs
    cases (show y1 = .int i from hy1)
    obtain ⟨ss, hss, hsz⟩ := evs_len M hsm
    refine ⟨_, rfl, p.mo, CM, dx, _, .ref p.ea, rfl, ho, TM.cl, TM.n_events, fM_events .., .inl ⟨rfl, _, SqL.of hss⟩, _, rfl, a, _, 1, _, rfl, rfl, SqT.of ha, at1 _ _ _, by show 2 ≤ sizeLine; decide, fun t2 ht2 => ?_⟩
    have s2 := same_new ht2 (.tup [.str "note", .int i])
    have hv : (Ev.note i).D.At F0 (upd H t2 (.tup [.str "note", .int i])) (.ref t2) := at_tup upd_same (ats_cons (at_str' (by decide +kernel)) (ats_cons rfl ats_nil))
    generalize upd H t2 (.tup [.str "note", .int i]) = H2 at s2 hv ⊢
    refine ⟨p.ea, _, _, rfl, rfl, s2 _ _ hss, hsz, ?_⟩
    obtain ⟨M3, k3, f3⟩ := (M.same s2).tell (s2 _ _ hss) hv
    generalize upd H2 p.ea (.lst (ss ++ [.ref t2])) = H3 at M3 k3 f3 ⊢
    have fA : Fr F0 H H3 := (fr_same s2).trans f3
    refine ⟨_, rfl, a, _, 2, _, rfl, rfl, SqT.of (fA.1 _ _ ha), at2 _ _ _ _, _, rfl, by show 3 ≤ sizeLine; decide, fun t ht => ?_⟩
    have s4 := same_new ht (.tup [.str "eval", y2, .ref wa])
    exact q _ _ (((KeepM.same s2).trans k3).trans (KeepM.same s4)) (M3.same s4) (at_tup upd_same (ats_cons (at_str' (by decide +kernel)) (ats_cons ((hy2.keep fA).keep (fr_same s4)) (ats_cons ((hws.keep fA).keep (fr_same s4)) ats_nil))))
abbrev sEvLet : Stmt := topS 23
theorem scEvLet : FnScope ["machine", "body", "words", "_", "members", "inner_body", "first", "inner_words", "member", "index"] ["machine", "body", "words"] (defScope sEvLet) := ⟨rfl, rfl, rfl, by decide +kernel, rfl, by decide +kernel, by decide +kernel⟩
theorem c_evaluate_let {f : Addr} {fd : FuncData} (TM : TxtMk K CM) (TH : TxtH K CH) (T : TxtEv mg) (cmake : C8.Met P w K mg base 2 CH "make" (spMake CH) []) (c_member_cell : C8.Cal P w K mg base 3 "_member_cell" (spMemCell CM CH) []) (F : Fun K "_evaluate_let" "_evaluate_let" sEvLet f fd) (b : Binds K fd ["machine", "body", "words"] []) (hm : mg "_evaluate_let" = some (.ref f)) : C8.Cal P w K mg base 4 "_evaluate_let" (spEv K CM CH .lt) [] := by
  refine cal_of F hm b scEvLet (fun vs H Q E h => ?_) (fun cdv A outer s H vs Q E hr h => ?_)
  · obtain ⟨p, m, m', nv, bv, wv, co, r, ws, n, rfl, _⟩ := h
    rfl
  obtain ⟨p, m, m', nv, bv, wv, co, r, ws, n, rfl, M, hat, hws, hev, hsm, q⟩ := h
  refine ⟨_, (pss_cons (ps_asg (pv 1) (pg_tup rfl (pgs_cons (pg_name (i := 3) scEvLet.nd rfl (Or.inl rfl)) (pgs_cons (pg_name (i := 4) scEvLet.nd rfl (Or.inl rfl)) (pgs_cons (pg_name (i := 5) scEvLet.nd rfl (Or.inl rfl)) pgs_nil)))))
    (pss_cons (ps_set (i := 6) scEvLet.nd rfl (Or.inr rfl) (pe_fld (pe_fld (pv 0) rfl) rfl))
    (pss_cons (ps_set (i := 7) scEvLet.nd rfl (Or.inl rfl) (pe_tup (StX.pa_star (pv 2) (StX.pa_star (pe_lc (own := [("index", 9)]) (g := gName 9) (tt := tYes) rfl scEvLet.nd (pi_range1 rfl T.zrange (pa_cons (pe_callB call_len_seq rfl T.zlen PySem.boot_len (pa_cons (pv 4) pa_nil)) pa_nil)) (blkOk_by (own := [("index", 9)]) (N := ["machine", "body", "words", "_", "members", "inner_body", "first", "inner_words", "member", "index"]) (sc := defScope sEvLet) (by decide +kernel)) (fun _ _ _ _ _ => (pg_name (i := 9) scEvLet.nd rfl (Or.inl rfl))) (fun _ _ _ _ _ => pts_nil) (fun _ _ _ _ _ => (pe_op op_mul pe_int (pe_op op_add (pv 6) (pv 9))))) pa_nil))))
    (pss_cons (ps_for PassesOwn.never rfl (pi_tup (pv 4)) (pg_name (i := 8) scEvLet.nd rfl (Or.inl rfl))
      (pss_one (ps_expr (C8.pe_mt cmake hr (by decide) (pe_fld (pv 0) rfl) (pa_cons (C8.pe_c c_member_cell hr (by decide) rfl (pa_cons (pv 0) (pa_cons (pv 8) (pa_cons (pv 7) pa_nil)))) pa_nil)))))
    (pss_one (ps_ret (pe_tup (pa_cons pe_str (pa_cons (pv 5) (pa_cons (pv 7) pa_nil)))))))))), ?_⟩
  obtain ⟨a, ys, rfl, ha, hs⟩ := head_at hat
  obtain ⟨dx, ho⟩ := M.o
  obtain ⟨⟨dy, hho⟩, _⟩ := id M.h
  obtain ⟨wa, rfl, hwa⟩ := ws_at hws
  cases hev with
  | @lt ms b1 _ _ cl s' hmb hl hwl =>
    obtain ⟨y1, zs, rfl, ⟨oa, oxs, rfl, hoa, hos⟩, y2, zs2, rfl, hy2, hn⟩ := hs
    cases (show zs2 = [] from hn)
    have hol := ats_len hos
    refine ⟨_, rfl, a, _, rfl, SqT.of ha, rfl, _, _, rfl, _, _, rfl, _, _, rfl, rfl, ?_⟩
    refine ⟨_, rfl, p.mo, CM, dx, _, .ref p.ho, rfl, ho, TM.cl, TM.n_heap, fM_heap .., p.ho, CH, dy, _, .int (m.cs.length : Int), rfl, hho, TH.cl, TH.nN, fldH_next .., ?_⟩
    refine ⟨_, rfl, wa, _, rfl, .inl (SqT.of hwa), _, rfl, oa, _, rfl, .inr (SqT.of hoa), (ms.length : Int), (by rw [hol]), by omega, by omega, fun D hD => ?_⟩
    have lsn : ∀ i, lets m.cs.length (i + 1) = lets m.cs.length i ++ [2 * ((m.cs.length : Int) + (i : Int))] := fun i => by
      unfold lets
      rw [List.range_succ, List.map_append]
      rfl
    have lsl : ∀ i, (lets m.cs.length i).length = i := fun i => by
      unfold lets
      rw [List.length_map, List.length_range]
    refine lc_range (Pv := fun i G => Same H G ∧ G D = some (.lst ((lets m.cs.length i).map V.int))) ⟨same_new hD _, upd_same⟩ ?_ ?_
    · rintro i G hi ⟨h1, h2⟩
      refine ⟨rfl, ?_⟩
      refine tYes_if ?_
      refine ⟨_, rfl, _, rfl, _, _, rfl, rfl, _, _, rfl, rfl, .inl ⟨by decide, by decide⟩, _, h2, ?_, same_upd hD h1 _, ?_⟩
      · rw [List.length_map, lsl]
        exact szl (by omega)
      · rw [upd_same, lsn, List.map_append, show 0 + (i : Int) = (i : Int) by omega]
        rfl
    rintro G1 ⟨s1, hG1⟩
    rw [show ((ms.length : Int)).toNat = ms.length by omega] at hG1
    refine ⟨D, _, rfl, .inr (SqL.of hG1), ?_, fun pt hpt => ?_⟩
    · rw [List.append_nil, List.length_append, List.length_map, List.length_map, lsl]
      exact Nat.le_of_lt (szl (by omega))
    rw [List.append_nil, ← List.map_append]
    have s2 := same_new hpt (.tup ((ws ++ lets m.cs.length ms.length).map V.int))
    have hpt2 : upd G1 pt (.tup ((ws ++ lets m.cs.length ms.length).map V.int)) pt = some (.tup ((ws ++ lets m.cs.length ms.length).map V.int)) := upd_same
    have s12 := sameT s1 s2
    generalize upd G1 pt (.tup ((ws ++ lets m.cs.length ms.length).map V.int)) = G2 at s2 hpt2 s12 ⊢
    generalize hwz : ws ++ lets m.cs.length ms.length = wz at *
    have hwzl : True := trivial
    have hoa2 := s12 _ _ hoa
    refine ⟨_, rfl, oa, rfl, ⟨oxs, SqT.of hoa2⟩, for_tup (fun i σ G => ∃ (v8 : Option V) (si : Int), σ = [some (.ref p.mo), some (.ref a), some (.ref wa), some (.str Wd.lt.str), some (.ref oa), some y2, some (.int (m.cs.length : Int)), some (.ref pt), v8, none] ∧ KeepM p G2 G ∧ MkAt CM CH G p { m with cs := m.cs ++ cl.take i, ser := si } nv co ∧ MbsS (ms.drop i) wz si (cl.drop i) s')
      ⟨_, m.ser, rfl, KeepM.refl, by rw [List.take_zero, List.append_nil]; exact M.same s12, hmb⟩ (fun i σ G _ ⟨v8, si, e, kG, MG, hb⟩ => SqT.of (((M.same s12).fr kG).1 _ _ hoa2)) ?_ ?_⟩
    · rintro i x σ G hx ⟨v8, si, rfl, kG, MG, hb⟩
      obtain ⟨k, hk, hkat⟩ := ats_get hos hx
      have hil : i < ms.length := (List.getElem?_eq_some_iff.mp hk).1
      have hcl := hmb.len
      have hci : cl[i]? = some cl[i] := List.getElem?_eq_getElem (by omega)
      generalize cl[i] = c1 at hci
      have fG := (M.same s12).fr kG
      have hkG := (hkat.keep (fr_same s12)).keep fG
      rw [drop_at hk, drop_at hci] at hb
      obtain ⟨dxG, hoG⟩ := MG.o
      obtain ⟨⟨dyG, hhG⟩, _⟩ := id MG.h
      obtain ⟨sj, hb1, hb2⟩ := hb.head
      refine ⟨_, rfl, p.mo, CM, dxG, _, .ref p.ho, rfl, hoG, TM.cl, TM.n_heap, fM_heap .., p.ho, dyG, _, rfl, hhG, fldH_no_make .., _, rfl, _, rfl, _, rfl, p, _, nv, x, .ref pt, co, sj, k, wz, c1, rfl, MG, hkG, ws_of (fG.1 _ _ hpt2), hb1, fun v' G3 k3 M3 hv3 => ?_⟩
      refine ⟨p, _, v', c1, rfl, M3.h, M3.ok.2.2.2.2.2.1, hv3, ?_, fun G4 k4 h4 => ?_⟩
      · have := hsm.c
        show (m.cs ++ cl.take i).length ≤ 95000
        rw [List.length_append, List.length_take]
        omega
      · obtain ⟨M4, km4, f4⟩ := M3.cells h4 k4
        refine ⟨_, sj, rfl, (kG.trans k3).trans km4, ?_, hb2⟩
        rw [take_snoc hci, ← List.append_assoc]
        exact M4
    · rintro σ G ⟨v8, si, rfl, kG, MG, hb⟩
      have hcl := hmb.len
      rw [hol, List.drop_of_length_le (Nat.le_refl _), show cl.drop ms.length = [] from List.drop_of_length_le (by omega)] at hb
      have hsi : si = s' := by cases hb; rfl
      subst hsi
      rw [show cl.take oxs.length = cl from List.take_of_length_le (by omega)] at MG
      have fG := (M.same s12).fr kG
      refine ⟨_, rfl, _, rfl, by show 3 ≤ sizeLine; decide, fun t ht => ?_⟩
      have s4 := same_new ht (.tup [.str "eval", y2, .ref pt])
      refine q _ _ (((KeepM.same s12).trans kG).trans (KeepM.same s4)) (MG.same s4) ?_
      exact at_tup upd_same (ats_cons (at_str' (by decide +kernel)) (ats_cons (((hy2.keep (fr_same s12)).keep fG).keep (fr_same s4)) (ats_cons ((ws_of (fG.1 _ _ hpt2)).keep (fr_same s4)) ats_nil)))
end
end Toy

set_option Elab.async false
set_option linter.all false
set_option maxRecDepth 100000
set_option maxHeartbeats 4000000
/-! Part MS: the program's machine: prims. -/
namespace L2
open PySem PySem.Spec PyProof.Rows
section
variable {X : Cx}
def CDivX (_ j : Int) : Prop := j ≠ 0 ∧ j.natAbs.log2 < 9000
theorem op_fdivX : OpR X (binaryOp .FloorDiv) (rI CDivX fun i j => .int (i.fdiv j)) := opI fun _ _ _ _ _ _ _ hc q => floordiv_int hc.1 q (.inl (PyProof.noPylong_of_log2 hc.2))
end
end L2
namespace Toy
open PySem L2
open PyProof.Rows (envOfC)
theorem log15 {j : Int} (h0 : -1000000000000000 ≤ j) (h1 : j ≤ 1000000000000000) : j.natAbs.log2 < 9000 := by
  rcases Nat.eq_zero_or_pos j.natAbs with e | e
  · rw [e]; decide
  · exact (Nat.log2_lt (by omega)).mpr (Nat.lt_of_lt_of_le (show j.natAbs < 2 ^ 60 by omega) (Nat.pow_le_pow_right (by decide) (by decide)))
def works : List Str := ["+", "-", "*", "div", "mod"]
section
variable {P : Program} {w : World} {K : PySem.W.Frag} {mg : Str → Option Value} {base : Heap} {C aS aN aZ aO : Addr}
abbrev sHolds : Stmt := topS 35
theorem scHolds : FnScope ["sign", "one", "other"] ["sign", "one", "other"] (defScope sHolds) := ⟨rfl, rfl, rfl, by decide +kernel, rfl, by decide +kernel, by decide +kernel⟩
def spHolds : Sp := fun vs H Q _ => ∃ (s : Str) (i j : Int), vs = [.str s, .int i, .int j] ∧ s ∈ ineqs ∧ Q (.bl (holdsA s i j)) H
theorem c_holdsT {f : Addr} {fd : FuncData} (F : Fun K "_holds" "_holds" sHolds f fd) (b : Binds K fd ["sign", "one", "other"] []) (hm : mg "_holds" = some (.ref f)) : C8.Cal P w K mg base 1 "_holds" spHolds [] := by
  refine cal_of F hm b scHolds (fun vs H Q E h => ?_) (fun cdv A outer s H vs Q E hr h => ?_)
  · obtain ⟨s, i, j, rfl, _⟩ := h
    rfl
  obtain ⟨s, i, j, rfl, hs, q⟩ := h
  refine ⟨_, (pss_cons (ps_if (pt_cmpR op_eq (pv 0) pe_str (nomark _))
      (pss_one (ps_ret (pe_cmpR op_eq (pv 1) (pv 2) (nomark _))))
      pss_nil)
    (pss_cons (ps_if (pt_cmpR op_eq (pv 0) pe_str (nomark _))
      (pss_one (ps_ret (pe_cmpR op_lt (pv 1) (pv 2) (nomark _))))
      pss_nil)
    (pss_one (ps_ret (pe_cmpR op_le (pv 1) (pv 2) (nomark _)))))), ?_⟩
  have no : ∀ {z w' : Str} {A B : Prop}, z ≠ w' → B → if decide (V.str z = V.str w') = true then A else B := fun h hb => by rw [wne h]; exact iteF hb
  have yes : ∀ {z : Str} {A B : Prop}, A → if decide (V.str z = V.str z) = true then A else B := fun hb => by rw [wtt]; exact iteT hb
  simp only [ineqs, List.mem_cons, List.not_mem_nil, or_false] at hs
  rcases hs with rfl | rfl | rfl
  · refine ⟨_, rfl, rfl, _, rfl, yes ?_⟩
    have hh : holdsA "==" i j = decide (V.int i = V.int j) := by
      unfold holdsA
      rw [if_pos rfl]
      exact decide_eq_decide.mpr ⟨fun e => by rw [e], fun e => V.int.inj e⟩
    rw [hh] at q
    exact ⟨_, rfl, _, rfl, rfl, q⟩
  · refine ⟨_, rfl, rfl, _, rfl, no (by decide +kernel) ?_⟩
    refine ⟨_, rfl, rfl, _, rfl, yes ?_⟩
    have hh : holdsA "<" i j = decide (i < j) := by
      unfold holdsA
      rw [if_neg (by decide +kernel), if_pos rfl]
    rw [hh] at q
    exact ⟨_, rfl, _, rfl, _, _, rfl, rfl, q⟩
  · refine ⟨_, rfl, rfl, _, rfl, no (by decide +kernel) ?_⟩
    refine ⟨_, rfl, rfl, _, rfl, no (by decide +kernel) ?_⟩
    have hh : holdsA "<=" i j = decide (i ≤ j) := by
      unfold holdsA
      rw [if_neg (by decide +kernel), if_neg (by decide +kernel)]
    rw [hh] at q
    exact ⟨_, rfl, _, rfl, _, _, rfl, rfl, q⟩
abbrev sWorked : Stmt := topS 36
theorem scWorked : FnScope ["sign", "one", "other"] ["sign", "one", "other"] (defScope sWorked) := ⟨rfl, rfl, rfl, by decide +kernel, rfl, by decide +kernel, by decide +kernel⟩
def spWorked : Sp := fun vs H Q _ => ∃ (s : Str) (i j : Int), vs = [.str s, .int i, .int j] ∧ s ∈ works ∧ (-1000000000000000 ≤ i ∧ i ≤ 1000000000000000) ∧ (-1000000000000000 ≤ j ∧ j ≤ 1000000000000000) ∧ (s = "div" ∨ s = "mod" → j ≠ 0) ∧ Q (.int (workA s i j)) H
theorem c_worked {f : Addr} {fd : FuncData} (F : Fun K "_worked_out" "_worked_out" sWorked f fd) (b : Binds K fd ["sign", "one", "other"] []) (hm : mg "_worked_out" = some (.ref f)) : C8.Cal P w K mg base 1 "_worked_out" spWorked [] := by
  refine cal_of F hm b scWorked (fun vs H Q E h => ?_) (fun cdv A outer s H vs Q E hr h => ?_)
  · obtain ⟨s, i, j, rfl, _⟩ := h
    rfl
  obtain ⟨s, i, j, rfl, hs, ⟨hi0, hi1⟩, ⟨hj0, hj1⟩, hj, q⟩ := h
  refine ⟨_, (pss_cons (ps_if (pt_cmpR op_eq (pv 0) pe_str (nomark _))
      (pss_one (ps_ret (pe_op op_add (pv 1) (pv 2))))
      pss_nil)
    (pss_cons (ps_if (pt_cmpR op_eq (pv 0) pe_str (nomark _))
      (pss_one (ps_ret (pe_op op_sub (pv 1) (pv 2))))
      pss_nil)
    (pss_cons (ps_if (pt_cmpR op_eq (pv 0) pe_str (nomark _))
      (pss_one (ps_ret (pe_op op_mul (pv 1) (pv 2))))
      pss_nil)
    (pss_cons (ps_if (pt_cmpR op_eq (pv 0) pe_str (nomark _))
      (pss_one (ps_ret (pe_op op_fdivX (pv 1) (pv 2))))
      pss_nil)
    (pss_one (ps_ret (pe_op op_sub (pv 1) (pe_op op_mul (pv 2) (pe_op op_fdivX (pv 1) (pv 2)))))))))), ?_⟩
  have no : ∀ {z w' : Str} {A B : Prop}, z ≠ w' → B → if decide (V.str z = V.str w') = true then A else B := fun h hb => by rw [wne h]; exact iteF hb
  have yes : ∀ {z : Str} {A B : Prop}, A → if decide (V.str z = V.str z) = true then A else B := fun hb => by rw [wtt]; exact iteT hb
  simp only [works, List.mem_cons, List.not_mem_nil, or_false] at hs
  rcases hs with rfl | rfl | rfl | rfl | rfl
  · refine ⟨_, rfl, rfl, _, rfl, yes ?_⟩
    have hw : workA "+" i j = i + j := by
      unfold workA
      rw [if_pos rfl]
    rw [hw] at q
    exact ⟨_, rfl, _, rfl, _, _, rfl, rfl, q⟩
  · refine ⟨_, rfl, rfl, _, rfl, no (by decide +kernel) ?_⟩
    refine ⟨_, rfl, rfl, _, rfl, yes ?_⟩
    have hw : workA "-" i j = i - j := by
      unfold workA
      rw [if_neg (by decide +kernel), if_pos rfl]
    rw [hw] at q
    exact ⟨_, rfl, _, rfl, _, _, rfl, rfl, q⟩
  · refine ⟨_, rfl, rfl, _, rfl, no (by decide +kernel) ?_⟩
    refine ⟨_, rfl, rfl, _, rfl, no (by decide +kernel) ?_⟩
    refine ⟨_, rfl, rfl, _, rfl, yes ?_⟩
    have hw : workA "*" i j = i * j := by
      unfold workA
      rw [if_neg (by decide +kernel), if_neg (by decide +kernel), if_pos rfl]
    rw [hw] at q
    exact ⟨_, rfl, _, rfl, _, _, rfl, rfl, .inl ⟨by omega, by omega⟩, q⟩
  · refine ⟨_, rfl, rfl, _, rfl, no (by decide +kernel) ?_⟩
    refine ⟨_, rfl, rfl, _, rfl, no (by decide +kernel) ?_⟩
    refine ⟨_, rfl, rfl, _, rfl, no (by decide +kernel) ?_⟩
    refine ⟨_, rfl, rfl, _, rfl, yes ?_⟩
    have hw : workA "div" i j = i.fdiv j := by
      unfold workA
      rw [if_neg (by decide +kernel), if_neg (by decide +kernel), if_neg (by decide +kernel), if_pos rfl]
    rw [hw] at q
    exact ⟨_, rfl, _, rfl, _, _, rfl, rfl, ⟨hj (.inl rfl), log15 hj0 hj1⟩, q⟩
  · refine ⟨_, rfl, rfl, _, rfl, no (by decide +kernel) ?_⟩
    refine ⟨_, rfl, rfl, _, rfl, no (by decide +kernel) ?_⟩
    refine ⟨_, rfl, rfl, _, rfl, no (by decide +kernel) ?_⟩
    refine ⟨_, rfl, rfl, _, rfl, no (by decide +kernel) ?_⟩
    have hw : workA "mod" i j = i - j * i.fdiv j := by
      unfold workA
      rw [if_neg (by decide +kernel), if_neg (by decide +kernel), if_neg (by decide +kernel), if_neg (by decide +kernel)]
    rw [hw] at q
    exact ⟨_, rfl, _, rfl, _, rfl, _, rfl, _, _, rfl, rfl, ⟨hj (.inr rfl), log15 hj0 hj1⟩, _, _, rfl, rfl, .inl ⟨by omega, by omega⟩, _, _, rfl, rfl, q⟩
structure TxtPr (K : PySem.W.Frag) (mg : Str → Option Value) (aZ aO : Addr) : Prop where
  gBY_ZERO : ∃ u, mg "BY_ZERO" = some u ∧ RelV (.ref aZ) u
  sBY_ZERO : ∀ H, SqT K H aZ [.str "fault", .str "division by zero"]
  gOVERFLOW : ∃ u, mg "OVERFLOW" = some u ∧ RelV (.ref aO) u
  sOVERFLOW : ∀ H, SqT K H aO [.str "fault", .str "overflow"]
  gLARGEST_NUMBER : ∃ u, mg "LARGEST_NUMBER" = some u ∧ RelV (.int 1000000000000000) u
/-- what a prim gives -/
def PrAt (K : PySem.W.Frag) (H : Hp) : Pr → V → Prop
  | .tf b, v => ∃ a u, v = .ref a ∧ H a = some (.tup [.str "con", .int (if b = true then 1 else 0), .ref u]) ∧ H u = some (.tup [])
  | .num i, v => ∃ a, v = .ref a ∧ H a = some (.tup [.str "num", .int i])
  | .fault s, v => ∃ a, v = .ref a ∧ SqT K H a [.str "fault", .str s]
abbrev sPrimRes : Stmt := topS 34
theorem scPrimRes : FnScope ["sign", "one", "other", "number"] ["sign", "one", "other"] (defScope sPrimRes) := ⟨rfl, rfl, rfl, by decide +kernel, rfl, by decide +kernel, by decide +kernel⟩
def spPrimR (K : PySem.W.Frag) : Sp := fun vs H Q _ => ∃ (s : Str) (i j : Int), vs = [.str s, .int i, .int j] ∧ s ∈ signs ∧ (-1000000000000000 ≤ i ∧ i ≤ 1000000000000000) ∧ (-1000000000000000 ≤ j ∧ j ≤ 1000000000000000) ∧ ∀ (v' : V) (H' : Hp), Same H H' → PrAt K H' (primR s i j) v' → Q v' H'
theorem c_primres {f : Addr} {fd : FuncData} (T : TxtPr K mg aZ aO) (c_holds : C8.Cal P w K mg base 1 "_holds" spHolds []) (c_worked_out : C8.Cal P w K mg base 1 "_worked_out" spWorked []) (F : Fun K "prim_result" "prim_result" sPrimRes f fd) (b : Binds K fd ["sign", "one", "other"] []) (hm : mg "prim_result" = some (.ref f)) : C8.Cal P w K mg base 2 "prim_result" (spPrimR K) [] := by
  refine cal_of F hm b scPrimRes (fun vs H Q E h => ?_) (fun cdv A outer s H vs Q E hr h => ?_)
  · obtain ⟨s, i, j, rfl, _⟩ := h
    rfl
  obtain ⟨s, i, j, rfl, hs, ⟨hi0, hi1⟩, ⟨hj0, hj1⟩, q⟩ := h
  refine ⟨_, (pss_cons (ps_if (pt_cmpR op_in_seq (pv 0) (pe_tup (pa_strs (zs := ["==", "<", "<="]) rfl)) rfl)
      (pss_one (ps_ret (pe_tup (pa_cons pe_str (pa_cons (pe_ifExp (pt_val (C8.pe_c c_holds hr (by decide) rfl (pa_cons (pv 0) (pa_cons (pv 1) (pa_cons (pv 2) pa_nil))))) pe_int pe_int) (pa_cons (pe_tup pa_nil) pa_nil))))))
      pss_nil)
    (C8.pss_cut (ps_if (PW.pt (pw_and (pt_cmpR op_in_seq (pv 0) (pe_tup (pa_cons pe_str (pa_cons pe_str pa_nil))) rfl) (pw_and1 (pt_cmpR op_eq (pv 2) pe_int (nomark _)))))
      (pss_one (ps_ret (C8.pe_gc rfl T.gBY_ZERO)))
      pss_nil)
    (pss_cons (ps_set (i := 3) scPrimRes.nd rfl (Or.inl rfl) (C8.pe_c c_worked_out hr (by decide) rfl (pa_cons (pv 0) (pa_cons (pv 1) (pa_cons (pv 2) pa_nil)))))
    (pss_cons (ps_if (pt_not (pt_chain op_le op_le (pe_un un_neg (C8.pe_gc rfl T.gLARGEST_NUMBER)) (pv 3) (C8.pe_gc rfl T.gLARGEST_NUMBER)))
      (pss_one (ps_ret (C8.pe_gc rfl T.gOVERFLOW)))
      pss_nil)
    (pss_one (ps_ret (pe_tup (pa_cons pe_str (pa_cons (pv 3) pa_nil))))))))), ?_⟩
  refine ⟨_, rfl, by show 3 ≤ sizeLine; decide, fun t1 ht1 => ?_⟩
  have s1 := same_new ht1 (.tup ([("==" : Str), "<", "<="].map V.str))
  have e1 : upd H t1 (.tup ([("==" : Str), "<", "<="].map V.str)) t1 = some (.tup ([("==" : Str), "<", "<="].map V.str)) := upd_same
  refine ⟨t1, _, rfl, .inr (SqT.of e1), rfl, flat_strs _, ?_⟩
  rw [show (if false = true then !inV (.str s) ([("==" : Str), "<", "<="].map V.str) else inV (.str s) ([("==" : Str), "<", "<="].map V.str)) = decide (s ∈ ineqs) by rw [if_neg (by decide), inV_strs]; rfl]
  refine ⟨_, rfl, ?_⟩
  generalize upd H t1 (.tup ([("==" : Str), "<", "<="].map V.str)) = H1 at s1 ⊢
  have hP : primR s i j = (if s = "==" ∨ s = "<" ∨ s = "<=" then .tf (holdsA s i j) else if (s = "div" ∨ s = "mod") ∧ j = 0 then .fault "division by zero" else if -1000000000000000 ≤ workA s i j ∧ workA s i j ≤ 1000000000000000 then .num (workA s i j) else .fault "overflow") := rfl
  have hmem : s ∈ ineqs ↔ (s = "==" ∨ s = "<" ∨ s = "<=") := by simp [ineqs]
  by_cases hc : s ∈ ineqs
  · rw [decide_eq_true hc]
    refine iteT ?_
    rw [if_pos (hmem.mp hc)] at hP
    have con : ∀ (n : Int), n = (if holdsA s i j = true then 1 else 0) → ∀ u, H1 u = none → ∀ t, upd H1 u (.tup []) t = none → Q (.ref t) (upd (upd H1 u (.tup [])) t (.tup [.str "con", .int n, .ref u])) := fun n hb u hu t ht => by
      have su := same_new hu (.tup [])
      have st := same_new ht (.tup [.str "con", .int n, .ref u])
      refine q _ _ (sameT s1 (sameT su st)) ?_
      rw [hP]
      exact ⟨t, u, rfl, by rw [← hb]; exact upd_same, st u _ upd_same⟩
    refine ⟨_, rfl, _, rfl, _, rfl, s, i, j, rfl, hc, _, rfl, ?_⟩
    refine ite2 (fun h => ?_) (fun h => ?_)
    · exact ⟨by show 0 ≤ sizeLine; decide, fun u hu => ⟨by show 3 ≤ sizeLine; decide, fun t ht => con 1 (if_pos h).symm u hu t ht⟩⟩
    · exact ⟨by show 0 ≤ sizeLine; decide, fun u hu => ⟨by show 3 ≤ sizeLine; decide, fun t ht => con 0 (if_neg h).symm u hu t ht⟩⟩
  · rw [decide_eq_false hc]
    refine iteF ?_
    rw [if_neg (fun h => hc (hmem.mpr h))] at hP
    have hwk : s ∈ works := by
      simp only [signs, List.mem_cons, List.not_mem_nil, or_false] at hs
      simp only [ineqs, List.mem_cons, List.not_mem_nil, or_false, not_or] at hc
      simp only [works, List.mem_cons, List.not_mem_nil, or_false]
      rcases hs with h | h | h | h | h | h | h | h
      · exact .inl h
      · exact .inr (.inl h)
      · exact .inr (.inr (.inl h))
      · exact .inr (.inr (.inr (.inl h)))
      · exact .inr (.inr (.inr (.inr h)))
      · exact absurd h hc.1
      · exact absurd h hc.2.1
      · exact absurd h hc.2.2
    refine ⟨fun σ' G => σ' = [some (.str s), some (.int i), some (.int j), none] ∧ Same H1 G ∧ ¬ ((s = "div" ∨ s = "mod") ∧ j = 0), ?_, ?_⟩
    · refine ⟨_, rfl, by show 2 ≤ sizeLine; decide, fun t2 ht2 => ?_⟩
      have s2 := same_new ht2 (.tup [.str "div", .str "mod"])
      have e2 : upd H1 t2 (.tup [.str "div", .str "mod"]) t2 = some (.tup ([("div" : Str), "mod"].map V.str)) := upd_same
      have s12 := sameT s1 s2
      generalize upd H1 t2 (.tup [.str "div", .str "mod"]) = H2 at s2 e2 s12 ⊢
      refine ⟨t2, _, rfl, .inr (SqT.of e2), rfl, flat_strs _, ?_⟩
      rw [show (if false = true then !inV (.str s) ([("div" : Str), "mod"].map V.str) else inV (.str s) ([("div" : Str), "mod"].map V.str)) = decide (s = "div" ∨ s = "mod") by rw [if_neg (by decide), inV_strs]; exact decide_eq_decide.mpr (by simp)]
      refine ⟨_, rfl, ?_⟩
      by_cases hd : s = "div" ∨ s = "mod"
      · rw [decide_eq_true hd]
        refine iteT ?_
        refine ⟨_, rfl, rfl, _, rfl, ?_⟩
        by_cases hj : j = 0
        · rw [show decide (V.int j = V.int 0) = true from decide_eq_true (by rw [hj])]
          refine iteT ?_
          rw [if_pos ⟨hd, hj⟩] at hP
          refine q _ _ s12 ?_
          rw [hP]
          exact ⟨aZ, rfl, T.sBY_ZERO _⟩
        · rw [show decide (V.int j = V.int 0) = false from decide_eq_false fun e => hj (V.int.inj e)]
          refine iteF ?_
          exact ⟨rfl, s2, fun h => hj h.2⟩
      · rw [decide_eq_false hd]
        refine iteF ?_
        refine iteF ?_
        exact ⟨rfl, s2, fun h => hd h.1⟩
    · rintro _ G ⟨rfl, sG, hz⟩
      have s12 := sameT s1 sG
      rw [if_neg hz] at hP
      refine ⟨_, rfl, _, rfl, _, rfl, s, i, j, rfl, hwk, ⟨hi0, hi1⟩, ⟨hj0, hj1⟩, fun h e => hz ⟨h, e⟩, ?_⟩
      have num : primR s i j = .num (workA s i j) → 2 ≤ sizeLine ∧ ∀ t, G t = none → Q (.ref t) (upd G t (.tup [.str "num", .int (workA s i j)])) := fun hb => ⟨by decide, fun t ht => by
        refine q _ _ (sameT s12 (same_new ht _)) ?_
        rw [hb]
        exact ⟨t, rfl, upd_same⟩⟩
      have ovf : primR s i j = .fault "overflow" → Q (.ref aO) G := fun hb => by
        refine q _ _ s12 ?_
        rw [hb]
        exact ⟨aO, rfl, T.sOVERFLOW _⟩
      generalize workA s i j = x at hP num ⊢
      refine ⟨_, rfl, _, rfl, _, _, rfl, rfl, _, rfl, ?_⟩
      by_cases h1 : -1000000000000000 ≤ x
      · rw [decide_eq_true h1]
        refine iteT ?_
        refine ⟨_, _, rfl, rfl, _, rfl, ?_⟩
        by_cases h2 : x ≤ 1000000000000000
        · rw [decide_eq_true h2]
          refine iteF ?_
          rw [if_pos ⟨h1, h2⟩] at hP
          exact ⟨_, rfl, num hP⟩
        · rw [decide_eq_false h2]
          refine iteT ?_
          rw [if_neg (fun h => h2 h.2)] at hP
          exact ovf hP
      · rw [decide_eq_false h1]
        refine iteF ?_
        refine ⟨_, rfl, ?_⟩
        refine iteT ?_
        rw [if_neg (fun h => h1 h.1)] at hP
        exact ovf hP

end
end Toy

set_option Elab.async false
set_option linter.all false
set_option maxRecDepth 100000
set_option maxHeartbeats 4000000
/-! Part J: a value meets a frame. -/
namespace L2
open PySem PySem.Spec PyProof.Rows
theorem no_iadd_tup : typeLookup (.type "tuple") (dunderI "add") = pure none := by rw [typeLookup_type, builtinLookup_eq_fast] <;> kernel_rfl
section
variable {prog : Program} {w : World} {A : Around} {E : Value → Shared → Prop} {s : Shared}
theorem iadd_tup {t b : Addr} {us vs : List Value} {Q : Value → Shared → Prop} (p1 : IsTup s.heap t us.toArray) (p2 : IsTup s.heap b vs.toArray) (q0 : us = [] → Q (.ref b) s) (q1 : us ≠ [] → vs = [] → Q (.ref t) s)
    (q2 : us ≠ [] → vs ≠ [] → Q (.ref s.heap.objs.size) { s with heap := s.heap.push { cls := .type "tuple", data := .seq (us ++ vs).toArray } }) (sz : us.length + vs.length ≤ sizeLine) : wpAny (model prog w) A (inplaceOp .Add (.ref t) (.ref b)) Q E s := by
  obtain ⟨⟨cl1, d1, dt1, sl1⟩, o1, c1, n1, e1⟩ := id p1
  obtain ⟨⟨cl2, d2, dt2, sl2⟩, o2, c2, n2, e2⟩ := id p2
  simp only at c1 c2 e1 e2
  subst c1 e1 c2 e2
  have ty1 : s.TypeIs (.ref t) "tuple" := ⟨_, o1, rfl⟩
  refine PySem.wpAny_inplaceOp_concat ty1 ⟨_, o2, rfl⟩ no_iadd_tup noFill_tuple_add seq_tuple_add ?_
  by_cases h1 : us = []
  · exact call_meets PySem.F.slot_tuple_add ty1 PySem.F.entry_tuple_add (PySem.F.args_tuple_add_2 _ _) (tuple_addW0 t b us.toArray vs.toArray n1 n2 d1 d2 sl1 sl2 (by simp [h1])) ⟨o1, o2, q0 h1⟩
  · by_cases h2 : vs = []
    · exact call_meets PySem.F.slot_tuple_add ty1 PySem.F.entry_tuple_add (PySem.F.args_tuple_add_2 _ _) (tuple_addW1 t b us.toArray vs.toArray n1 n2 d1 d2 sl1 sl2 (by simpa using h1) (by simp [h2])) ⟨o1, o2, q1 h1 h2⟩
    · refine call_meets PySem.F.slot_tuple_add ty1 PySem.F.entry_tuple_add (PySem.F.args_tuple_add_2 _ _) (tuple_addW2 t b us.toArray vs.toArray n1 n2 d1 d2 sl1 sl2 (by simpa using h1) (by simpa using h2) (by rw [List.size_toArray, List.size_toArray]; exact sz)) ⟨o1, o2, ?_⟩
      rw [show us.toArray ++ vs.toArray = (us ++ vs).toArray by simp]
      exact q2 h1 h2
end
theorem ip_catA {X : Cx} : PIp X .Add (rCatA X.K) := by
  intro pins s σ H x y v u Q I rx ry h
  obtain ⟨a, b, xs, ys, rfl, rfl, ha, hb, hz, q0, q1, q2⟩ := h
  cases rx
  cases ry
  obtain ⟨its, r1, p1, _⟩ := I.tuple ha
  obtain ⟨its2, r2, p2, _⟩ := I.tuple hb
  refine iadd_tup p1 p2 (fun z => ⟨.ref b, H, I, rfl, q0 (r1.nil_iff.mp z)⟩) (fun z1 z2 => ⟨.ref a, H, I, rfl, q1 (fun e => z1 (r1.nil_iff.mpr e)) (r2.nil_iff.mp z2)⟩) (fun z1 z2 => ?_) (by rw [← r1.length, ← r2.length]; exact hz)
  refine ⟨.ref s.heap.objs.size, _, I.laid (t' := s.toks) (o := .tup (xs ++ ys)) (fun b ob q => Heap.get?_push_of_some _ q) (Nat.le_refl _) ?_, rfl, q2 (fun e => z1 (r1.nil_iff.mpr e)) (fun e => z2 (r2.nil_iff.mpr e)) _ (I.hok.fresh (Nat.le_refl _))⟩
  exact ⟨by rw [List.length_append]; exact hz, _, r1.append r2, IsTup.new _ _⟩


end L2
namespace Toy
open PySem L2
open PyProof.Rows (envOfC)
theorem cut_whole {xs : List V} {lo hi : Option Int} (h : HT.sIx xs.length 0 lo = 0 ∧ HT.sIx xs.length xs.length hi = xs.length) : cutV xs lo hi = xs := by
  unfold cutV
  rw [h.1, h.2, List.drop_zero, Nat.sub_zero, List.take_length]
theorem slA_tup {K : PySem.W.Frag} {H : Hp} {a : Addr} {xs : List V} {lo hi : Option Int} {Q : V → Hp → Prop} (ha : H a = some (.tup xs)) (h : ∀ p H', Same H H' → H' p = some (.tup (cutV xs lo hi)) → Q (.ref p) H') : rSlA K (.ref a) lo hi H Q :=
  ⟨a, xs, rfl, SqT.of ha, fun hw => h a H (fun _ _ e => e) (by rw [cut_whole hw]; exact ha), fun _ p hp => h p _ (same_new hp _) upd_same⟩
theorem catA_tup {K : PySem.W.Frag} {H : Hp} {a b : Addr} {xs ys : List V} {Q : V → Hp → Prop} (ha : H a = some (.tup xs)) (hb : H b = some (.tup ys)) (hz : xs.length + ys.length ≤ sizeLine) (h : ∀ p H', Same H H' → H' p = some (.tup (xs ++ ys)) → Q (.ref p) H') : rCatA K (.ref a) (.ref b) H Q :=
  ⟨a, b, xs, ys, rfl, rfl, SqT.of ha, SqT.of hb, hz, fun e => h b H (fun _ _ e => e) (by rw [e]; exact hb), fun _ e => h a H (fun _ _ e => e) (by rw [e, List.append_nil]; exact ha), fun _ _ p hp => h p _ (same_new hp _) upd_same⟩
theorem cut_from (xs : List V) (k : Nat) (h : k ≤ xs.length) : cutV xs (some (k : Int)) none = xs.drop k := by
  unfold cutV
  rw [HT.sIx_none, HT.sIx_nat, Nat.min_eq_left h]
  exact List.take_of_length_le (by rw [List.length_drop]; exact Nat.le_refl _)
theorem cut_to (xs : List V) (k : Nat) (h : k ≤ xs.length) : cutV xs none (some (k : Int)) = xs.take k := by
  unfold cutV
  rw [HT.sIx_none, HT.sIx_nat, Nat.min_eq_left h, List.drop_zero, Nat.sub_zero]
def fnD (q : Int × Dd) : Dd := .tup [.int q.1, q.2]
/-- the functions of a machine -/
def FsAt (H : Hp) (fs : List (Int × Dd)) (fv : V) : Prop := ∃ a xs, fv = .ref a ∧ H a = some (.tup xs) ∧ Dd.Ats F0 H (fs.map fnD) xs
theorem FsAt.keep {H H' : Hp} {fs : List (Int × Dd)} {fv : V} (h : FsAt H fs fv) (f : Fr F0 H H') : FsAt H' fs fv := by
  obtain ⟨a, xs, e, h1, h2⟩ := h
  exact ⟨a, xs, e, f.1 _ _ h1, h2.keep f⟩
theorem FsAt.get {H : Hp} {fs : List (Int × Dd)} {a : Addr} {xs : List V} (h : Dd.Ats F0 H (fs.map fnD) xs) {i : Nat} {q : Int × Dd} (hi : fs[i]? = some q) : ∃ t bv, xs[i]? = some (.ref t) ∧ H t = some (.tup [.int q.1, bv]) ∧ q.2.At F0 H bv := by
  obtain ⟨x, hx, t, ys, rfl, ht, y1, zs, rfl, hy1, y2, us, rfl, hy2, hn⟩ := ats_getI h (i := i) (k := fnD q) (by rw [List.getElem?_map, hi]; rfl)
  cases (show us = [] from hn)
  cases (show y1 = .int q.1 from hy1)
  exact ⟨t, y2, hx, ht, hy2⟩
theorem at_non {H : Hp} {d : Dd} (h : d.At F0 H .non) : d = .non := by
  cases d with
  | non => rfl
  | bl b => cases (show V.non = .bl b from h)
  | int i => cases (show V.non = .int i from h)
  | str s => cases (show V.non = .str s from h.1)
  | tup l => obtain ⟨a, xs, e, _⟩ := h; cases e
  | lst l => obtain ⟨a, xs, e, _⟩ := h; cases e
def VlAt (H : Hp) : Vl → V → Prop
  | .num n, v => (Dd.tup [.str "number", .int n]).At F0 H v
  | .cell c, v => c.D.At F0 H v
theorem VlAt.keep {H H' : Hp} (f : Fr F0 H H') : ∀ {l : Vl} {v : V}, VlAt H l v → VlAt H' l v
  | .num _, _, h => Dd.At.keep f h
  | .cell _, _, h => Dd.At.keep f h
theorem vl_word {H : Hp} {l : Vl} {v : V} (h : VlAt H l v) : ∃ a xs, v = .ref a ∧ H a = some (.tup (.str l.word :: xs)) := by
  cases l with
  | num n =>
    obtain ⟨a, xs, rfl, ha, x, ys, rfl, ⟨rfl, _⟩, hy⟩ := h
    exact ⟨a, _, rfl, ha⟩
  | cell c => exact cell_word h
theorem vl_num {H : Hp} {n : Int} {v : V} (h : VlAt H (.num n) v) : ∃ a, v = .ref a ∧ H a = some (.tup [.str "number", .int n]) := by
  obtain ⟨a, xs, rfl, ha, x, ys, rfl, ⟨rfl, _⟩, y, zs, rfl, hy, hn⟩ := h
  cases (show zs = [] from hn)
  cases (show y = .int n from hy)
  exact ⟨a, rfl, ha⟩
theorem vl_con {H : Hp} {t : Int} {vs : List Int} {v : V} (h : VlAt H (.cell (.con t vs)) v) : ∃ a u, v = .ref a ∧ H a = some (.tup [.str "con", .int t, .ref u]) ∧ H u = some (.tup (vs.map V.int)) := by
  obtain ⟨a, xs, rfl, ha, x, ys, rfl, ⟨rfl, _⟩, y, zs, rfl, hy, z, us, rfl, hz, hn⟩ := h
  cases (show us = [] from hn)
  cases (show y = .int t from hy)
  obtain ⟨u, rfl, hu⟩ := ws_at hz
  exact ⟨a, u, rfl, ha, hu⟩
theorem vl_part {H : Hp} {t : Int} {vs : List Int} {v : V} (h : VlAt H (.cell (.part t vs)) v) : ∃ a u, v = .ref a ∧ H a = some (.tup [.str "part", .int t, .ref u]) ∧ H u = some (.tup (vs.map V.int)) := by
  obtain ⟨a, xs, rfl, ha, x, ys, rfl, ⟨rfl, _⟩, y, zs, rfl, hy, z, us, rfl, hz, hn⟩ := h
  cases (show us = [] from hn)
  cases (show y = .int t from hy)
  obtain ⟨u, rfl, hu⟩ := ws_at hz
  exact ⟨a, u, rfl, ha, hu⟩
structure TxtMt (K : PySem.W.Frag) (mg : Str → Option Value) (C aS : Addr) : Prop extends TxtMk K C where
  zlen : mg "len" = none
  gSTUCK : ∃ u, mg "STUCK" = some u ∧ RelV (.ref aS) u
  sSTUCK : ∀ H, SqT K H aS [.str "stuck"]
section
variable {P : Program} {w : World} {K : PySem.W.Frag} {mg : Str → Option Value} {base : Heap} {CM CH aS : Addr}
abbrev sCellOf : Stmt := topS 41
theorem scCellOf : FnScope ["machine", "word"] ["machine", "word"] (defScope sCellOf) := ⟨rfl, rfl, rfl, by decide +kernel, rfl, by decide +kernel, by decide +kernel⟩
def spCellOf (CM CH : Addr) : Sp := fun vs H Q _ => ∃ (p : Pl) (m : Mc) (nv : V) (co x : Int) (l : Vl), vs = [.ref p.mo, .int x] ∧ MkAt CM CH H p m nv co ∧ VlS x m l ∧ ∀ (v' : V) (H' : Hp), Same H H' → VlAt H' l v' → Q v' H'
theorem c_cellof {f : Addr} {fd : FuncData} (TM : TxtMk K CM) (ccell : C8.Met P w K mg base 1 CH "cell" (spCell CH) []) (F : Fun K "_cell_of" "_cell_of" sCellOf f fd) (b : Binds K fd ["machine", "word"] []) (hm : mg "_cell_of" = some (.ref f)) : C8.Cal P w K mg base 2 "_cell_of" (spCellOf CM CH) [] := by
  refine cal_of F hm b scCellOf (fun vs H Q E h => ?_) (fun cdv A outer s H vs Q E hr h => ?_)
  · obtain ⟨p, m, nv, co, x, l, rfl, _⟩ := h
    rfl
  obtain ⟨p, m, nv, co, x, l, rfl, M, hv, q⟩ := h
  refine ⟨_, (pss_one (ps_ret (pe_ifExp (pt_cmpR op_ne (pe_op op_mod (pv 1) pe_int) pe_int (nomark _)) (pe_tup (pa_cons pe_str (pa_cons (pe_op op_fdiv (pv 1) pe_int) pa_nil))) (C8.pe_mt ccell hr (by decide) (pe_fld (pv 0) rfl) (pa_cons (pe_op op_fdiv (pv 1) pe_int) pa_nil))))), ?_⟩
  obtain ⟨dx, ho⟩ := M.o
  obtain ⟨⟨dy, hho⟩, _⟩ := id M.h
  refine ⟨_, rfl, _, _, rfl, rfl, (show (0 : Int) < 2 by decide), rfl, _, rfl, ?_⟩
  cases hv with
  | @odd n _ =>
    show if (!decide (V.int ((2 * n + 1) % 2) = V.int 0)) = true then _ else _
    rw [odd_ne]
    refine iteT ?_
    refine ⟨_, rfl, _, _, rfl, rfl, ⟨by decide, by decide⟩, by show 2 ≤ sizeLine; decide, fun t ht => ?_⟩
    dsimp only
    rw [half1]
    exact q _ _ (same_new ht _) (at_tup upd_same (ats_cons (at_str' (by decide +kernel)) (ats_cons rfl ats_nil)))
  | @even n _ c hc =>
    show if (!decide (V.int ((2 * (n : Int)) % 2) = V.int 0)) = true then _ else _
    rw [even_ne]
    refine iteF ?_
    refine ⟨_, rfl, p.mo, CM, dx, _, .ref p.ho, rfl, ho, TM.cl, TM.n_heap, fM_heap .., p.ho, dy, _, rfl, hho, fldH_no_cell .., _, rfl, _, _, rfl, rfl, ⟨by decide, by decide⟩, p, m.cs, n, c, ?_, M.h, hc, fun cv hcv => q _ _ same_id hcv⟩
    dsimp only
    rw [half]
    rfl
abbrev sIsPart : Stmt := topS 42
theorem scIsPart : FnScope ["machine", "cell", "frame", "arity", "_"] ["machine", "cell", "frame"] (defScope sIsPart) := ⟨rfl, rfl, rfl, by decide +kernel, rfl, by decide +kernel, by decide +kernel⟩
def spIsPart (CM CH : Addr) : Sp := fun vs H Q _ => ∃ (p : Pl) (m : Mc) (nv cv gv : V) (co ar : Int) (fs : List (Int × Dd)) (i : Nat) (us ws : List Int) (b : Dd), vs = [.ref p.mo, cv, gv] ∧ MkAt CM CH H p m nv co ∧ FsAt H fs p.fv ∧ VlAt H (.cell (.part (i : Int) us)) cv ∧ (Fm.apply ws).D.At F0 H gv ∧ fs[i]? = some (ar, b) ∧ Q (.bl (decide (((us.length + ws.length : Nat) : Int) < ar))) H
theorem c_ispart {f : Addr} {fd : FuncData} (T : TxtMt K mg CM aS) (F : Fun K "_is_partial" "_is_partial" sIsPart f fd) (b : Binds K fd ["machine", "cell", "frame"] []) (hm : mg "_is_partial" = some (.ref f)) : C8.Cal P w K mg base 1 "_is_partial" (spIsPart CM CH) [] := by
  refine cal_of F hm b scIsPart (fun vs H Q E h => ?_) (fun cdv A outer s H vs Q E hr h => ?_)
  · obtain ⟨p, m, nv, cv, gv, co, ar, fs, i, us, ws, b, rfl, _⟩ := h
    rfl
  obtain ⟨p, m, nv, cv, gv, co, ar, fs, i, us, ws, bd, rfl, M, ⟨fa, fxs, hfv, hfa, hfx⟩, hcv, hgv, hi, q⟩ := h
  refine ⟨_, (pss_cons (ps_asg (pe_ix ix_tup (pe_fld (pv 0) rfl) (pe_ix ix_tup (pv 1) pe_int (fun _ _ => rfl)) (fun _ _ => rfl)) (pg_tup rfl (pgs_cons (pg_name (i := 3) scIsPart.nd rfl (Or.inl rfl)) (pgs_cons (pg_name (i := 4) scIsPart.nd rfl (Or.inl rfl)) pgs_nil))))
    (pss_one (ps_ret (pe_cmpR op_lt (pe_op op_add (pe_callB call_len_seq rfl T.zlen PySem.boot_len (pa_cons (pe_ix ix_tup (pv 1) pe_int (fun _ _ => rfl)) pa_nil)) (pe_callB call_len_seq rfl T.zlen PySem.boot_len (pa_cons (pe_ix ix_tup (pv 2) pe_int (fun _ _ => rfl)) pa_nil))) (pv 3) (nomark _))))), ?_⟩
  obtain ⟨dx, ho⟩ := M.o
  obtain ⟨ca, cu, rfl, hca, hcu⟩ := vl_part hcv
  obtain ⟨ga, gxs, rfl, hga, x1, ys1, rfl, ⟨rfl, _⟩, y2, zs2, rfl, hy2, hn⟩ := hgv
  obtain ⟨gu, rfl, hgu⟩ := ws_at hy2
  obtain ⟨t, bv, hft, ht, hbv⟩ := FsAt.get (a := fa) hfx hi
  rw [hfv] at ho
  refine ⟨_, rfl, p.mo, CM, dx, _, _, rfl, ho, T.cl, T.n_functions, fM_functions .., _, rfl, ca, _, 1, _, rfl, rfl, SqT.of hca, at1 _ _ _, fa, _, _, _, rfl, rfl, SqT.of hfa, atI_nat hft, ?_⟩
  refine ⟨t, _, rfl, SqT.of ht, rfl, _, _, rfl, _, _, rfl, rfl, ?_⟩
  refine ⟨_, rfl, ca, _, 2, _, rfl, rfl, SqT.of hca, at2 _ _ _ _, cu, _, rfl, .inr (SqT.of hcu), _, rfl, ga, _, 1, _, rfl, rfl, SqT.of hga, at1 _ _ _, gu, _, rfl, .inr (SqT.of hgu), _, _, rfl, rfl, _, rfl, _, _, rfl, rfl, ?_⟩
  rw [List.length_map, List.length_map, show ((us.length : Nat) : Int) + ((ws.length : Nat) : Int) = ((us.length + ws.length : Nat) : Int) by omega]
  exact q
abbrev sFault : Stmt := topS 43
theorem scFault : FnScope ["machine", "text"] ["machine", "text"] (defScope sFault) := ⟨rfl, rfl, rfl, by decide +kernel, rfl, by decide +kernel, by decide +kernel⟩
def spFault (CM CH : Addr) : Sp := fun vs H Q _ => ∃ (p : Pl) (m : Mc) (nv : V) (co : Int) (z : Str), vs = [.ref p.mo, .str z] ∧ MkAt CM CH H p m nv co ∧ m.small ∧ z.length ≤ 1000 ∧ ∀ (v' : V) (H' : Hp), KeepM p H H' → MkAt CM CH H' p (m.ev (.fault z)) nv co → (Nw.fault z).D.At F0 H' v' → Q v' H'
theorem c_fault {f : Addr} {fd : FuncData} (TM : TxtMk K CM) (F : Fun K "_fault" "_fault" sFault f fd) (b : Binds K fd ["machine", "text"] []) (hm : mg "_fault" = some (.ref f)) : C8.Cal P w K mg base 1 "_fault" (spFault CM CH) [] := by
  refine cal_of F hm b scFault (fun vs H Q E h => ?_) (fun cdv A outer s H vs Q E hr h => ?_)
  · obtain ⟨p, m, nv, co, z, rfl, _⟩ := h
    rfl
  obtain ⟨p, m, nv, co, z, rfl, M, hsm, hz, q⟩ := h
  refine ⟨_, (pss_cons (ps_expr (pe_bm PySem.F.plainAttrs_list PySem.F.slot_list_append PySem.F.type_list_append mt_append (pe_fld (pv 0) rfl) (pa_cons (pe_tup (pa_cons pe_str (pa_cons (pv 1) pa_nil))) pa_nil)))
    (pss_one (ps_ret (pe_tup (pa_cons pe_str (pa_cons (pv 1) pa_nil)))))), ?_⟩
  obtain ⟨dx, ho⟩ := M.o
  obtain ⟨ss, hss, hsz⟩ := evs_len M hsm
  refine ⟨_, rfl, p.mo, CM, dx, _, .ref p.ea, rfl, ho, TM.cl, TM.n_events, fM_events .., .inl ⟨rfl, _, SqL.of hss⟩, _, rfl, by show 2 ≤ sizeLine; decide, fun t2 ht2 => ?_⟩
  have s2 := same_new ht2 (.tup [.str "fault", .str z])
  have hv : (Ev.fault z).D.At F0 (upd H t2 (.tup [.str "fault", .str z])) (.ref t2) := at_tup upd_same (ats_cons (at_str' (by decide +kernel)) (ats_cons (at_str' hz) ats_nil))
  generalize upd H t2 (.tup [.str "fault", .str z]) = H2 at s2 hv ⊢
  refine ⟨p.ea, _, _, rfl, rfl, s2 _ _ hss, hsz, ?_⟩
  obtain ⟨M3, k3, f3⟩ := (M.same s2).tell (s2 _ _ hss) hv
  generalize upd H2 p.ea (.lst (ss ++ [.ref t2])) = H3 at M3 k3 f3 ⊢
  refine ⟨_, rfl, by show 2 ≤ sizeLine; decide, fun t ht => ?_⟩
  have s4 := same_new ht (.tup [.str "fault", .str z])
  exact q _ _ (((KeepM.same s2).trans k3).trans (KeepM.same s4)) (M3.same s4) (at_tup upd_same (ats_cons (at_str' (by decide +kernel)) (ats_cons (at_str' hz) ats_nil)))
abbrev sChDef : Stmt := topS 50
theorem scChDef : FnScope ["machine", "default", "words", "word"] ["machine", "default", "words", "word"] (defScope sChDef) := ⟨rfl, rfl, rfl, by decide +kernel, rfl, by decide +kernel, by decide +kernel⟩
def spChDef (K : PySem.W.Frag) (CM CH : Addr) : Sp := fun vs H Q _ => ∃ (p : Pl) (m m' : Mc) (nv dv wv : V) (co x : Int) (d : Dd) (ws : List Int) (n : Nw), vs = [.ref p.mo, dv, wv, .int x] ∧ MkAt CM CH H p m nv co ∧ m.small ∧ d.At F0 H dv ∧ (wsD ws).At F0 H wv ∧ DfS d ws x m n m' ∧ ∀ (v' : V) (H' : Hp), KeepM p H H' → MkAt CM CH H' p m' nv co → NwAt K H' n v' → Q v' H'
theorem c_chdef {f : Addr} {fd : FuncData} (TM : TxtMk K CM) (c_fault : C8.Cal P w K mg base 1 "_fault" (spFault CM CH) []) (F : Fun K "_choose_default" "_choose_default" sChDef f fd) (b : Binds K fd ["machine", "default", "words", "word"] []) (hm : mg "_choose_default" = some (.ref f)) : C8.Cal P w K mg base 2 "_choose_default" (spChDef K CM CH) [] := by
  refine cal_of F hm b scChDef (fun vs H Q E h => ?_) (fun cdv A outer s H vs Q E hr h => ?_)
  · obtain ⟨p, m, m', nv, dv, wv, co, x, d, ws, n, rfl, _⟩ := h
    rfl
  obtain ⟨p, m, m', nv, dv, wv, co, x, d, ws, n, rfl, M, hsm, hd, hws, hdf, q⟩ := h
  refine ⟨_, (pss_cons (ps_if (pt_cmpR op_isN (pv 1) pe_non (nomark _))
      (pss_one (ps_ret (C8.pe_c c_fault hr (by decide) rfl (pa_cons (pv 0) (pa_cons pe_str pa_nil)))))
      pss_nil)
    (pss_one (ps_ret (pe_tup (pa_cons pe_str (pa_cons (pv 1) (pa_cons (pe_tup (StX.pa_star (pv 2) (pa_cons (pv 3) pa_nil))) pa_nil))))))), ?_⟩
  cases hdf with
  | non =>
    cases (show dv = .non from hd)
    refine ⟨_, rfl, rfl, _, rfl, ?_⟩
    refine iteT ?_
    exact ⟨_, rfl, p, m, nv, co, _, rfl, M, hsm, by decide +kernel, fun v' H' k' M' hv' => q _ _ k' M' hv'⟩
  | some hne hwl =>
    refine ⟨_, rfl, rfl, _, rfl, ?_⟩
    rw [show decide (dv = V.non) = false from decide_eq_false fun e => hne (at_non (e ▸ hd))]
    refine iteF ?_
    obtain ⟨wa, rfl, hwa⟩ := ws_at hws
    refine ⟨_, rfl, _, rfl, wa, _, rfl, .inl (SqT.of hwa), _, rfl, by show (ws.map V.int ++ [V.int x]).length ≤ sizeLine; rw [List.length_append, List.length_map]; exact Nat.le_of_lt (szl (by show ws.length + 1 ≤ _; omega)), fun t1 ht1 => ⟨by show 3 ≤ sizeLine; decide, fun t2 ht2 => ?_⟩⟩
    have s1 := same_new ht1 (.tup (ws.map V.int ++ [.int x]))
    have e1 : upd H t1 (.tup (ws.map V.int ++ [.int x])) t1 = some (.tup ((ws ++ [x]).map V.int)) := by rw [upd_same, List.map_append]; rfl
    have s2 := same_new ht2 (.tup [.str "eval", dv, .ref t1])
    have s12 := sameT s1 s2
    exact q _ _ (KeepM.same s12) (M.same s12) (at_tup upd_same (ats_cons (at_str' (by decide +kernel)) (ats_cons (hd.keep (fr_same s12)) (ats_cons (ws_of (s2 _ _ e1)) ats_nil))))
end
end Toy

set_option Elab.async false
set_option linter.all false
set_option maxRecDepth 100000
set_option maxHeartbeats 4000000
/-! Part K: meetings, frame by frame. -/
namespace Toy
open PySem L2
open PyProof.Rows (envOfC)
theorem nno {z w' : Str} {A B : Prop} (h : z ≠ w') (hb : A) : if (!decide (V.str z = V.str w')) = true then A else B := by rw [wne h]; exact iteT hb
theorem nyes {z : Str} {A B : Prop} (hb : B) : if (!decide (V.str z = V.str z)) = true then A else B := by rw [wtt]; exact iteF hb
theorem ieq {i j : Int} (h : i = j) : decide (V.int i = V.int j) = true := decide_eq_true (by rw [h])
theorem ine {i j : Int} (h : i ≠ j) : decide (V.int i = V.int j) = false := decide_eq_false fun e => h (V.int.inj e)
section
variable {P : Program} {w : World} {K : PySem.W.Frag} {mg : Str → Option Value} {base : Heap} {CM CH aS : Addr}
/-- a value meets a frame of this kind -/
def spMt (K : PySem.W.Frag) (CM CH : Addr) (kind : Fm → Prop) : Sp := fun vs H Q _ => ∃ (p : Pl) (m m' : Mc) (nv gv : V) (co x : Int) (fs : List (Int × Dd)) (f : Fm) (n : Nw), vs = [.ref p.mo, gv, .int x] ∧ kind f ∧ MkAt CM CH H p m nv co ∧ FsAt H fs p.fv ∧ f.D.At F0 H gv ∧ MtS fs f x m n m' ∧ m.small ∧
  ∀ (v' : V) (H' : Hp), KeepM p H H' → MkAt CM CH H' p m' nv co → NwAt K H' n v' → Q v' H'
abbrev sMtShow : Stmt := topS 44
theorem scMtShow : FnScope ["machine", "frame", "word", "cell", "first", "rest"] ["machine", "frame", "word"] (defScope sMtShow) := ⟨rfl, rfl, rfl, by decide +kernel, rfl, by decide +kernel, by decide +kernel⟩
theorem c_meet_show {f : Addr} {fd : FuncData} (T : TxtMt K mg CM aS) (c_cell_of : C8.Cal P w K mg base 2 "_cell_of" (spCellOf CM CH) [])  (F : Fun K "_meet_show" "_meet_show" sMtShow f fd) (b : Binds K fd ["machine", "frame", "word"] []) (hm : mg "_meet_show" = some (.ref f)) : C8.Cal P w K mg base 4 "_meet_show" (spMt K CM CH fun f => f = .show) [] := by
  refine cal_of F hm b scMtShow (fun vs H Q E h => ?_) (fun cdv A outer s H vs Q E hr h => ?_)
  · obtain ⟨p, m, m', nv, gv, co, x, fs, f, n, rfl, _⟩ := h
    rfl
  obtain ⟨p, m, m', nv, gv, co, x, fs, fm, n, rfl, rfl, M, hF, hgv, hmt, hsm, q⟩ := h
  refine ⟨_, (pss_cons (ps_set (i := 3) scMtShow.nd rfl (Or.inl rfl) (C8.pe_c c_cell_of hr (by decide) rfl (pa_cons (pv 0) (pa_cons (pv 2) pa_nil))))
    (pss_cons (ps_if (pt_cmpR op_ne (pe_ix ix_tup (pv 3) pe_int (fun _ _ => rfl)) pe_str (nomark _))
      (pss_one (ps_ret (C8.pe_gc rfl T.gSTUCK)))
      pss_nil)
    (pss_cons (ps_if (pt_cmpR op_eq (pe_ix ix_tup (pv 3) pe_int (fun _ _ => rfl)) pe_int (nomark _))
      (pss_cons (ps_expr (pe_bm PySem.F.plainAttrs_list PySem.F.slot_list_append PySem.F.type_list_append mt_append (pe_fld (pv 0) rfl) (pa_cons (pe_tup (pa_cons pe_str pa_nil)) pa_nil)))
    (pss_one (ps_ret (pe_tup (pa_cons pe_str pa_nil)))))
      pss_nil)
    (pss_cons (ps_if (PW.pt (pw_or (pt_cmpR op_ne (pe_ix ix_tup (pv 3) pe_int (fun _ _ => rfl)) pe_int (nomark _)) (pw_or1 (pt_cmpR op_ne (pe_callB call_len_seq rfl T.zlen PySem.boot_len (pa_cons (pe_ix ix_tup (pv 3) pe_int (fun _ _ => rfl)) pa_nil)) pe_int (nomark _)))))
      (pss_one (ps_ret (C8.pe_gc rfl T.gSTUCK)))
      pss_nil)
    (pss_cons (ps_asg (pe_ix ix_tup (pv 3) pe_int (fun _ _ => rfl)) (pg_tup rfl (pgs_cons (pg_name (i := 4) scMtShow.nd rfl (Or.inl rfl)) (pgs_cons (pg_name (i := 5) scMtShow.nd rfl (Or.inl rfl)) pgs_nil))))
    (pss_cons (ps_expr (pe_bm PySem.F.plainAttrs_list PySem.F.slot_list_append PySem.F.type_list_append mt_append (pe_fld (pv 0) rfl) (pa_cons (pe_tup (pa_cons pe_str (pa_cons (pv 5) pa_nil))) pa_nil)))
    (pss_one (ps_ret (pe_tup (pa_cons pe_str (pa_cons (pv 4) pa_nil))))))))))), ?_⟩
  have stuckQ : ∀ {H1 : Hp}, Same H H1 → n = .stuck → m' = m → Q (.ref aS) H1 := fun s1 e1 e2 => by
    subst e1 e2
    exact q _ _ (KeepM.same s1) (M.same s1) ⟨aS, rfl, T.sSTUCK _⟩
  cases hmt with
  | showNo hv hne =>
    refine ⟨_, rfl, _, rfl, p, m, nv, co, x, _, rfl, M, hv, fun cv H1 s1 hcv => ?_⟩
    obtain ⟨ca, cxs, rfl, hca⟩ := vl_word hcv
    refine ⟨_, rfl, ca, _, 0, _, rfl, rfl, SqT.of hca, at0 _ _, rfl, _, rfl, ?_⟩
    exact nno hne (stuckQ s1 rfl rfl)
  | @showEnd _ _ vs hv =>
    refine ⟨_, rfl, _, rfl, p, m, nv, co, x, _, rfl, M, hv, fun cv H1 s1 hcv => ?_⟩
    obtain ⟨ca, cu, rfl, hca, hcu⟩ := vl_con hcv
    refine ⟨_, rfl, ca, _, 0, _, rfl, rfl, SqT.of hca, at0 _ _, rfl, _, rfl, ?_⟩
    refine nyes ?_
    refine ⟨_, rfl, ca, _, 1, _, rfl, rfl, SqT.of hca, at1 _ _ _, rfl, _, rfl, ?_⟩
    refine iteT ?_
    have M1 := M.same s1
    obtain ⟨dx, ho⟩ := M1.o
    obtain ⟨ss, hss, hsz⟩ := evs_len M1 hsm
    refine ⟨_, rfl, p.mo, CM, dx, _, .ref p.ea, rfl, ho, T.cl, T.n_events, fM_events .., .inl ⟨rfl, _, SqL.of hss⟩, by show 1 ≤ sizeLine; decide, fun t2 ht2 => ?_⟩
    have s2 := same_new ht2 (.tup [.str "end"])
    have hev : Ev.fin.D.At F0 (upd H1 t2 (.tup [.str "end"])) (.ref t2) := at_tup upd_same (ats_cons (at_str' (by decide +kernel)) ats_nil)
    generalize upd H1 t2 (.tup [.str "end"]) = H2 at s2 hev ⊢
    refine ⟨p.ea, _, _, rfl, rfl, s2 _ _ hss, hsz, ?_⟩
    obtain ⟨M3, k3, f3⟩ := (M1.same s2).tell (s2 _ _ hss) hev
    generalize upd H2 p.ea (.lst (ss ++ [.ref t2])) = H3 at M3 k3 f3 ⊢
    refine ⟨by show 1 ≤ sizeLine; decide, fun t ht => ?_⟩
    have s4 := same_new ht (.tup [.str "end"])
    exact q _ _ (((KeepM.same (sameT s1 s2)).trans k3).trans (KeepM.same s4)) (M3.same s4) (at_tup upd_same (ats_cons (at_str' (by decide +kernel)) ats_nil))
  | @showCons _ a1 b1 _ hv =>
    refine ⟨_, rfl, _, rfl, p, m, nv, co, x, _, rfl, M, hv, fun cv H1 s1 hcv => ?_⟩
    obtain ⟨ca, cu, rfl, hca, hcu⟩ := vl_con hcv
    refine ⟨_, rfl, ca, _, 0, _, rfl, rfl, SqT.of hca, at0 _ _, rfl, _, rfl, ?_⟩
    refine nyes ?_
    refine ⟨_, rfl, ca, _, 1, _, rfl, rfl, SqT.of hca, at1 _ _ _, rfl, _, rfl, ?_⟩
    refine iteF ?_
    refine ⟨_, rfl, ca, _, 1, _, rfl, rfl, SqT.of hca, at1 _ _ _, rfl, _, rfl, ?_⟩
    refine iteF ?_
    refine ⟨_, rfl, ca, _, 2, _, rfl, rfl, SqT.of hca, at2 _ _ _ _, cu, _, rfl, .inr (SqT.of hcu), rfl, _, rfl, ?_⟩
    refine iteF ?_
    refine ⟨_, rfl, ca, _, 2, _, rfl, rfl, SqT.of hca, at2 _ _ _ _, cu, _, rfl, SqT.of hcu, rfl, _, _, rfl, _, _, rfl, rfl, ?_⟩
    have M1 := M.same s1
    obtain ⟨dx, ho⟩ := M1.o
    obtain ⟨ss, hss, hsz⟩ := stk_len M1 hsm
    refine ⟨_, rfl, p.mo, CM, dx, _, .ref p.sa, rfl, ho, T.cl, T.n_stack, fM_stack .., .inl ⟨rfl, _, SqL.of hss⟩, _, rfl, by show 2 ≤ sizeLine; decide, fun t2 ht2 => ?_⟩
    have s2 := same_new ht2 (.tup [.str "head", .int b1])
    have hev : (Fm.head b1).D.At F0 (upd H1 t2 (.tup [.str "head", .int b1])) (.ref t2) := at_tup upd_same (ats_cons (at_str' (by decide +kernel)) (ats_cons rfl ats_nil))
    generalize upd H1 t2 (.tup [.str "head", .int b1]) = H2 at s2 hev ⊢
    refine ⟨p.sa, _, _, rfl, rfl, s2 _ _ hss, hsz, ?_⟩
    obtain ⟨M3, k3, f3⟩ := (M1.same s2).push (s2 _ _ hss) hev
    generalize upd H2 p.sa (.lst (ss ++ [.ref t2])) = H3 at M3 k3 f3 ⊢
    refine ⟨_, rfl, by show 2 ≤ sizeLine; decide, fun t ht => ?_⟩
    have s4 := same_new ht (.tup [.str "enter", .int a1])
    exact q _ _ (((KeepM.same (sameT s1 s2)).trans k3).trans (KeepM.same s4)) (M3.same s4) (at_tup upd_same (ats_cons (at_str' (by decide +kernel)) (ats_cons rfl ats_nil)))
  | @showBad _ t0 _ vs hv h0 h1 =>
    refine ⟨_, rfl, _, rfl, p, m, nv, co, x, _, rfl, M, hv, fun cv H1 s1 hcv => ?_⟩
    obtain ⟨ca, cu, rfl, hca, hcu⟩ := vl_con hcv
    refine ⟨_, rfl, ca, _, 0, _, rfl, rfl, SqT.of hca, at0 _ _, rfl, _, rfl, ?_⟩
    refine nyes ?_
    refine ⟨_, rfl, ca, _, 1, _, rfl, rfl, SqT.of hca, at1 _ _ _, rfl, _, rfl, ?_⟩
    show if decide (V.int t0 = V.int 0) = true then _ else _
    rw [ine h0]
    refine iteF ?_
    refine ⟨_, rfl, ca, _, 1, _, rfl, rfl, SqT.of hca, at1 _ _ _, rfl, _, rfl, ?_⟩
    by_cases h2 : t0 = 1
    · have h3 : vs.length ≠ 2 := h1.resolve_left fun h => h h2
      show if (!decide (V.int t0 = V.int 1)) = true then _ else _
      rw [ieq h2]
      refine iteF ?_
      refine ⟨_, rfl, ca, _, 2, _, rfl, rfl, SqT.of hca, at2 _ _ _ _, cu, _, rfl, .inr (SqT.of hcu), rfl, _, rfl, ?_⟩
      show if (!decide (V.int (((vs.map V.int).length : Nat) : Int) = V.int 2)) = true then _ else _
      rw [ine (by rw [List.length_map]; omega)]
      exact iteT (stuckQ s1 rfl rfl)
    · show if (!decide (V.int t0 = V.int 1)) = true then _ else _
      rw [ine h2]
      exact iteT (iteT (stuckQ s1 rfl rfl))
abbrev sMtHead : Stmt := topS 45
theorem scMtHead : FnScope ["machine", "frame", "word", "cell"] ["machine", "frame", "word"] (defScope sMtHead) := ⟨rfl, rfl, rfl, by decide +kernel, rfl, by decide +kernel, by decide +kernel⟩
theorem c_meet_head {f : Addr} {fd : FuncData} (T : TxtMt K mg CM aS) (c_cell_of : C8.Cal P w K mg base 2 "_cell_of" (spCellOf CM CH) [])  (F : Fun K "_meet_head" "_meet_head" sMtHead f fd) (b : Binds K fd ["machine", "frame", "word"] []) (hm : mg "_meet_head" = some (.ref f)) : C8.Cal P w K mg base 4 "_meet_head" (spMt K CM CH fun f => ∃ r, f = .head r) [] := by
  refine cal_of F hm b scMtHead (fun vs H Q E h => ?_) (fun cdv A outer s H vs Q E hr h => ?_)
  · obtain ⟨p, m, m', nv, gv, co, x, fs, f, n, rfl, _⟩ := h
    rfl
  obtain ⟨p, m, m', nv, gv, co, x, fs, fm, n, rfl, ⟨r0, rfl⟩, M, hF, hgv, hmt, hsm, q⟩ := h
  refine ⟨_, (pss_cons (ps_set (i := 3) scMtHead.nd rfl (Or.inl rfl) (C8.pe_c c_cell_of hr (by decide) rfl (pa_cons (pv 0) (pa_cons (pv 2) pa_nil))))
    (pss_cons (ps_if (pt_cmpR op_ne (pe_ix ix_tup (pv 3) pe_int (fun _ _ => rfl)) pe_str (nomark _))
      (pss_one (ps_ret (C8.pe_gc rfl T.gSTUCK)))
      pss_nil)
    (pss_cons (ps_expr (pe_bm PySem.F.plainAttrs_list PySem.F.slot_list_append PySem.F.type_list_append mt_append (pe_fld (pv 0) rfl) (pa_cons (pe_tup (pa_cons pe_str (pa_cons (pe_ix ix_tup (pv 3) pe_int (fun _ _ => rfl)) pa_nil))) pa_nil)))
    (pss_cons (ps_expr (pe_bm PySem.F.plainAttrs_list PySem.F.slot_list_append PySem.F.type_list_append mt_append (pe_fld (pv 0) rfl) (pa_cons (pe_tup (pa_cons pe_str pa_nil)) pa_nil)))
    (pss_one (ps_ret (pe_tup (pa_cons pe_str (pa_cons (pe_ix ix_tup (pv 1) pe_int (fun _ _ => rfl)) pa_nil))))))))), ?_⟩
  have stuckQ : ∀ {H1 : Hp}, Same H H1 → n = .stuck → m' = m → Q (.ref aS) H1 := fun s1 e1 e2 => by
    subst e1 e2
    exact q _ _ (KeepM.same s1) (M.same s1) ⟨aS, rfl, T.sSTUCK _⟩
  obtain ⟨ga, gxs, rfl, hga, x1, ys1, rfl, ⟨rfl, _⟩, y2, zs2, rfl, hy2, hn⟩ := hgv
  cases (show y2 = .int r0 from hy2)
  cases hmt with
  | headNo hv hne =>
    refine ⟨_, rfl, _, rfl, p, m, nv, co, x, _, rfl, M, hv, fun cv H1 s1 hcv => ?_⟩
    obtain ⟨ca, cxs, rfl, hca⟩ := vl_word hcv
    refine ⟨_, rfl, ca, _, 0, _, rfl, rfl, SqT.of hca, at0 _ _, rfl, _, rfl, ?_⟩
    exact nno hne (stuckQ s1 rfl rfl)
  | @head _ _ n0 _ hv =>
    refine ⟨_, rfl, _, rfl, p, m, nv, co, x, _, rfl, M, hv, fun cv H1 s1 hcv => ?_⟩
    obtain ⟨ca, rfl, hca⟩ := vl_num hcv
    refine ⟨_, rfl, ca, _, 0, _, rfl, rfl, SqT.of hca, at0 _ _, rfl, _, rfl, ?_⟩
    refine nyes ?_
    have M1 := M.same s1
    obtain ⟨dx, ho⟩ := M1.o
    obtain ⟨ss, hss, hsz⟩ := evs_len M1 hsm
    refine ⟨_, rfl, p.mo, CM, dx, _, .ref p.ea, rfl, ho, T.cl, T.n_events, fM_events .., .inl ⟨rfl, _, SqL.of hss⟩, _, rfl, ca, _, 1, _, rfl, rfl, SqT.of hca, at1 _ _ _, by show 2 ≤ sizeLine; decide, fun t2 ht2 => ?_⟩
    have s2 := same_new ht2 (.tup [.str "show", .int n0])
    have hev : (Ev.shw n0).D.At F0 (upd H1 t2 (.tup [.str "show", .int n0])) (.ref t2) := at_tup upd_same (ats_cons (at_str' (by decide +kernel)) (ats_cons rfl ats_nil))
    generalize upd H1 t2 (.tup [.str "show", .int n0]) = H2 at s2 hev ⊢
    refine ⟨p.ea, _, _, rfl, rfl, s2 _ _ hss, hsz, ?_⟩
    obtain ⟨M3, k3, f3⟩ := (M1.same s2).tell (s2 _ _ hss) hev
    generalize upd H2 p.ea (.lst (ss ++ [.ref t2])) = H3 at M3 k3 f3 ⊢
    obtain ⟨dx3, ho3⟩ := M3.o
    have hs3 : H3 p.sa = (upd H2 p.ea (.lst (ss ++ [.ref t2]))) p.sa ∨ True := .inr trivial
    obtain ⟨us, hus, husA⟩ := id M3.s
    have husz : us.length < sizeLine := by
      have := ats_len husA
      rw [List.length_map] at this
      have h3 := hsm.s
      have h4 : us.length = m.stk.length := this
      exact szl (by omega)
    refine ⟨_, rfl, p.mo, CM, dx3, _, .ref p.sa, rfl, ho3, T.cl, T.n_stack, fM_stack .., .inl ⟨rfl, _, SqL.of hus⟩, by show 1 ≤ sizeLine; decide, fun t3 ht3 => ?_⟩
    have s3 := same_new ht3 (.tup [.str "show"])
    have hsh : Fm.show.D.At F0 (upd H3 t3 (.tup [.str "show"])) (.ref t3) := at_tup upd_same (ats_cons (at_str' (by decide +kernel)) ats_nil)
    generalize upd H3 t3 (.tup [.str "show"]) = H4 at s3 hsh ⊢
    refine ⟨p.sa, _, _, rfl, rfl, s3 _ _ hus, husz, ?_⟩
    obtain ⟨M4, k4, f4⟩ := (M3.same s3).push (s3 _ _ hus) hsh
    generalize upd H4 p.sa (.lst (us ++ [.ref t3])) = H5 at M4 k4 f4 ⊢
    have hgaE := f4.1 _ _ (s3 _ _ (f3.1 _ _ ((sameT s1 s2) _ _ hga)))
    refine ⟨_, rfl, ga, _, 1, _, rfl, rfl, SqT.of hgaE, at1 _ _ _, by show 2 ≤ sizeLine; decide, fun t ht => ?_⟩
    have s4 := same_new ht (.tup [.str "enter", .int r0])
    exact q _ _ (((((KeepM.same (sameT s1 s2)).trans k3).trans (KeepM.same s3)).trans k4).trans (KeepM.same s4)) (M4.same s4) (at_tup upd_same (ats_cons (at_str' (by decide +kernel)) (ats_cons rfl ats_nil)))
abbrev sMtUpd : Stmt := topS 46
theorem scMtUpd : FnScope ["machine", "frame", "word"] ["machine", "frame", "word"] (defScope sMtUpd) := ⟨rfl, rfl, rfl, by decide +kernel, rfl, by decide +kernel, by decide +kernel⟩
theorem c_meet_update {f : Addr} {fd : FuncData} (T : TxtMt K mg CM aS) (c_cell_of : C8.Cal P w K mg base 2 "_cell_of" (spCellOf CM CH) []) (cput : C8.Met P w K mg base 2 CH "put" (spPut CH) []) (F : Fun K "_meet_update" "_meet_update" sMtUpd f fd) (b : Binds K fd ["machine", "frame", "word"] []) (hm : mg "_meet_update" = some (.ref f)) : C8.Cal P w K mg base 4 "_meet_update" (spMt K CM CH fun f => ∃ a, f = .upd a) [] := by
  refine cal_of F hm b scMtUpd (fun vs H Q E h => ?_) (fun cdv A outer s H vs Q E hr h => ?_)
  · obtain ⟨p, m, m', nv, gv, co, x, fs, f, n, rfl, _⟩ := h
    rfl
  obtain ⟨p, m, m', nv, gv, co, x, fs, fm, n, rfl, ⟨a0, rfl⟩, M, hF, hgv, hmt, hsm, q⟩ := h
  refine ⟨_, (pss_cons (ps_expr (C8.pe_mt cput hr (by decide) (pe_fld (pv 0) rfl) (pa_cons (pe_ix ix_tup (pv 1) pe_int (fun _ _ => rfl)) (pa_cons (pe_tup (pa_cons pe_str (pa_cons (pv 2) pa_nil))) pa_nil))))
    (pss_one (ps_ret (pe_tup (pa_cons pe_str (pa_cons (pv 2) pa_nil)))))), ?_⟩
  have stuckQ : ∀ {H1 : Hp}, Same H H1 → n = .stuck → m' = m → Q (.ref aS) H1 := fun s1 e1 e2 => by
    subst e1 e2
    exact q _ _ (KeepM.same s1) (M.same s1) ⟨aS, rfl, T.sSTUCK _⟩
  obtain ⟨ga, gxs, rfl, hga, x1, ys1, rfl, ⟨rfl, _⟩, y2, zs2, rfl, hy2, hn⟩ := hgv
  cases (show y2 = .int a0 from hy2)
  cases hmt with
  | @upd _ a _ c hc =>
    obtain ⟨dx, ho⟩ := M.o
    obtain ⟨⟨dy, hho⟩, _⟩ := id M.h
    refine ⟨_, rfl, p.mo, CM, dx, _, .ref p.ho, rfl, ho, T.cl, T.n_heap, fM_heap .., p.ho, dy, _, rfl, hho, fldH_no_put .., _, rfl, ga, _, 1, _, rfl, rfl, SqT.of hga, at1 _ _ _, _, rfl, by show 2 ≤ sizeLine; decide, fun t2 ht2 => ?_⟩
    have s2 := same_new ht2 (.tup [.str "on", .int x])
    have M2 := M.same s2
    refine ⟨p, m.cs, a, _, .on x, c, rfl, M2.h, M2.ok.2.2.2.2.2.1, hc, at_tup upd_same (ats_cons (at_str' (by decide +kernel)) (ats_cons rfl ats_nil)), Nat.le_trans hsm.c (by decide), fun H3 k3 h3 => ?_⟩
    obtain ⟨M3, km3, f3⟩ := M2.cells h3 k3
    refine ⟨_, rfl, by show 2 ≤ sizeLine; decide, fun t ht => ?_⟩
    have s4 := same_new ht (.tup [.str "value", .int x])
    exact q _ _ (((KeepM.same s2).trans km3).trans (KeepM.same s4)) (M3.same s4) (at_tup upd_same (ats_cons (at_str' (by decide +kernel)) (ats_cons rfl ats_nil)))
abbrev sMtSeq : Stmt := topS 51
theorem scMtSeq : FnScope ["machine", "frame", "word", "_", "body", "words"] ["machine", "frame", "word"] (defScope sMtSeq) := ⟨rfl, rfl, rfl, by decide +kernel, rfl, by decide +kernel, by decide +kernel⟩
theorem c_meet_seq {f : Addr} {fd : FuncData} (T : TxtMt K mg CM aS) (c_cell_of : C8.Cal P w K mg base 2 "_cell_of" (spCellOf CM CH) [])  (F : Fun K "_meet_seq" "_meet_seq" sMtSeq f fd) (b : Binds K fd ["machine", "frame", "word"] []) (hm : mg "_meet_seq" = some (.ref f)) : C8.Cal P w K mg base 4 "_meet_seq" (spMt K CM CH fun f => ∃ b ws, f = .seq b ws) [] := by
  refine cal_of F hm b scMtSeq (fun vs H Q E h => ?_) (fun cdv A outer s H vs Q E hr h => ?_)
  · obtain ⟨p, m, m', nv, gv, co, x, fs, f, n, rfl, _⟩ := h
    rfl
  obtain ⟨p, m, m', nv, gv, co, x, fs, fm, n, rfl, ⟨b0, ws, rfl⟩, M, hF, hgv, hmt, hsm, q⟩ := h
  refine ⟨_, (pss_cons (ps_asg (pv 1) (pg_tup rfl (pgs_cons (pg_name (i := 3) scMtSeq.nd rfl (Or.inl rfl)) (pgs_cons (pg_name (i := 4) scMtSeq.nd rfl (Or.inl rfl)) (pgs_cons (pg_name (i := 5) scMtSeq.nd rfl (Or.inl rfl)) pgs_nil)))))
    (pss_one (ps_ret (pe_tup (pa_cons pe_str (pa_cons (pv 4) (pa_cons (pe_tup (StX.pa_star (pv 5) (pa_cons (pv 2) pa_nil))) pa_nil))))))), ?_⟩
  have stuckQ : ∀ {H1 : Hp}, Same H H1 → n = .stuck → m' = m → Q (.ref aS) H1 := fun s1 e1 e2 => by
    subst e1 e2
    exact q _ _ (KeepM.same s1) (M.same s1) ⟨aS, rfl, T.sSTUCK _⟩
  obtain ⟨ga, gxs, rfl, hga, x1, ys1, rfl, ⟨rfl, _⟩, y2, zs2, rfl, hy2, y3, zs3, rfl, hy3, hn⟩ := hgv
  cases (show zs3 = [] from hn)
  obtain ⟨wa, rfl, hwa⟩ := ws_at hy3
  cases hmt with
  | seq hwl =>
    refine ⟨_, rfl, ga, _, rfl, SqT.of hga, rfl, _, _, rfl, _, _, rfl, _, _, rfl, rfl, ?_⟩
    refine ⟨_, rfl, _, rfl, wa, _, rfl, .inl (SqT.of hwa), _, rfl, by show (ws.map V.int ++ [V.int x]).length ≤ sizeLine; rw [List.length_append, List.length_map]; exact Nat.le_of_lt (szl (by show ws.length + 1 ≤ _; omega)), fun t1 ht1 => ⟨by show 3 ≤ sizeLine; decide, fun t2 ht2 => ?_⟩⟩
    have s1 := same_new ht1 (.tup (ws.map V.int ++ [.int x]))
    have e1 : upd H t1 (.tup (ws.map V.int ++ [.int x])) t1 = some (.tup ((ws ++ [x]).map V.int)) := by rw [upd_same, List.map_append]; rfl
    have s2 := same_new ht2 (.tup [.str "eval", y2, .ref t1])
    have s12 := sameT s1 s2
    exact q _ _ (KeepM.same s12) (M.same s12) (at_tup upd_same (ats_cons (at_str' (by decide +kernel)) (ats_cons (hy2.keep (fr_same s12)) (ats_cons (ws_of (s2 _ _ e1)) ats_nil))))
abbrev sMtRight : Stmt := topS 52
theorem scMtRight : FnScope ["machine", "frame", "word", "_", "sign", "operand", "words", "cell"] ["machine", "frame", "word"] (defScope sMtRight) := ⟨rfl, rfl, rfl, by decide +kernel, rfl, by decide +kernel, by decide +kernel⟩
theorem c_meet_right {f : Addr} {fd : FuncData} (T : TxtMt K mg CM aS) (c_cell_of : C8.Cal P w K mg base 2 "_cell_of" (spCellOf CM CH) []) (cword_of : C8.Cal P w K mg base 1 "word_of" spWordOf []) (F : Fun K "_meet_right" "_meet_right" sMtRight f fd) (b : Binds K fd ["machine", "frame", "word"] []) (hm : mg "_meet_right" = some (.ref f)) : C8.Cal P w K mg base 4 "_meet_right" (spMt K CM CH fun f => ∃ s o ws, f = .right s o ws) [] := by
  refine cal_of F hm b scMtRight (fun vs H Q E h => ?_) (fun cdv A outer s H vs Q E hr h => ?_)
  · obtain ⟨p, m, m', nv, gv, co, x, fs, f, n, rfl, _⟩ := h
    rfl
  obtain ⟨p, m, m', nv, gv, co, x, fs, fm, n, rfl, ⟨s0, o0, ws, rfl⟩, M, hF, hgv, hmt, hsm, q⟩ := h
  refine ⟨_, (pss_cons (ps_asg (pv 1) (pg_tup rfl (pgs_cons (pg_name (i := 3) scMtRight.nd rfl (Or.inl rfl)) (pgs_cons (pg_name (i := 4) scMtRight.nd rfl (Or.inl rfl)) (pgs_cons (pg_name (i := 5) scMtRight.nd rfl (Or.inl rfl)) (pgs_cons (pg_name (i := 6) scMtRight.nd rfl (Or.inl rfl)) pgs_nil))))))
    (pss_cons (ps_set (i := 7) scMtRight.nd rfl (Or.inl rfl) (C8.pe_c c_cell_of hr (by decide) rfl (pa_cons (pv 0) (pa_cons (pv 2) pa_nil))))
    (pss_cons (ps_if (pt_cmpR op_ne (pe_ix ix_tup (pv 7) pe_int (fun _ _ => rfl)) pe_str (nomark _))
      (pss_one (ps_ret (C8.pe_gc rfl T.gSTUCK)))
      pss_nil)
    (pss_cons (ps_expr (pe_bm PySem.F.plainAttrs_list PySem.F.slot_list_append PySem.F.type_list_append mt_append (pe_fld (pv 0) rfl) (pa_cons (pe_tup (pa_cons pe_str (pa_cons (pv 4) (pa_cons (pe_ix ix_tup (pv 7) pe_int (fun _ _ => rfl)) pa_nil)))) pa_nil)))
    (pss_one (ps_ret (pe_tup (pa_cons pe_str (pa_cons (C8.pe_c cword_of hr (by decide) rfl (pa_cons (pv 5) (pa_cons (pv 6) pa_nil))) pa_nil))))))))), ?_⟩
  have stuckQ : ∀ {H1 : Hp}, Same H H1 → n = .stuck → m' = m → Q (.ref aS) H1 := fun s1 e1 e2 => by
    subst e1 e2
    exact q _ _ (KeepM.same s1) (M.same s1) ⟨aS, rfl, T.sSTUCK _⟩
  obtain ⟨ga, gxs, rfl, hga, x1, ys1, rfl, ⟨rfl, _⟩, y2, zs2, rfl, ⟨rfl, hsl⟩, y3, zs3, rfl, hy3, y4, zs4, rfl, hy4, hn⟩ := hgv
  cases (show zs4 = [] from hn)
  refine ⟨_, rfl, ga, _, rfl, SqT.of hga, rfl, _, _, rfl, _, _, rfl, _, _, rfl, _, _, rfl, rfl, ?_⟩
  cases hmt with
  | rightNo hv hne =>
    refine ⟨_, rfl, _, rfl, p, m, nv, co, x, _, rfl, M, hv, fun cv H1 s1 hcv => ?_⟩
    obtain ⟨ca, cxs, rfl, hca⟩ := vl_word hcv
    refine ⟨_, rfl, ca, _, 0, _, rfl, rfl, SqT.of hca, at0 _ _, rfl, _, rfl, ?_⟩
    exact nno hne (stuckQ s1 rfl rfl)
  | @right _ n0 v0 _ _ _ _ hv hop hz =>
    refine ⟨_, rfl, _, rfl, p, m, nv, co, x, _, rfl, M, hv, fun cv H1 s1 hcv => ?_⟩
    obtain ⟨ca, rfl, hca⟩ := vl_num hcv
    refine ⟨_, rfl, ca, _, 0, _, rfl, rfl, SqT.of hca, at0 _ _, rfl, _, rfl, ?_⟩
    refine nyes ?_
    have M1 := M.same s1
    obtain ⟨dx, ho⟩ := M1.o
    obtain ⟨ss, hss, hsz⟩ := stk_len M1 hsm
    refine ⟨_, rfl, p.mo, CM, dx, _, .ref p.sa, rfl, ho, T.cl, T.n_stack, fM_stack .., .inl ⟨rfl, _, SqL.of hss⟩, _, rfl, _, rfl, ca, _, 1, _, rfl, rfl, SqT.of hca, at1 _ _ _, by show 3 ≤ sizeLine; decide, fun t2 ht2 => ?_⟩
    have s2 := same_new ht2 (.tup [.str "prim", .str s0, .int n0])
    have hev : (Fm.prim s0 n0).D.At F0 (upd H1 t2 (.tup [.str "prim", .str s0, .int n0])) (.ref t2) := at_tup upd_same (ats_cons (at_str' (by decide +kernel)) (ats_cons (at_str' hz) (ats_cons rfl ats_nil)))
    generalize upd H1 t2 (.tup [.str "prim", .str s0, .int n0]) = H2 at s2 hev ⊢
    refine ⟨p.sa, _, _, rfl, rfl, s2 _ _ hss, hsz, ?_⟩
    obtain ⟨M3, k3, f3⟩ := (M1.same s2).push (s2 _ _ hss) hev
    generalize upd H2 p.sa (.lst (ss ++ [.ref t2])) = H3 at M3 k3 f3 ⊢
    have fA : Fr F0 H H3 := (fr_same (sameT s1 s2)).trans f3
    refine ⟨_, rfl, _, rfl, y3, y4, o0, ws, v0, rfl, hy3.keep fA, hy4.keep fA, hop, by show 2 ≤ sizeLine; decide, fun t ht => ?_⟩
    have s4 := same_new ht (.tup [.str "enter", .int v0])
    exact q _ _ (((KeepM.same (sameT s1 s2)).trans k3).trans (KeepM.same s4)) (M3.same s4) (at_tup upd_same (ats_cons (at_str' (by decide +kernel)) (ats_cons rfl ats_nil)))
abbrev sMtPrim : Stmt := topS 53
theorem scMtPrim : FnScope ["machine", "frame", "word", "_", "sign", "number", "cell", "result"] ["machine", "frame", "word"] (defScope sMtPrim) := ⟨rfl, rfl, rfl, by decide +kernel, rfl, by decide +kernel, by decide +kernel⟩
theorem c_meet_prim {f : Addr} {fd : FuncData} (T : TxtMt K mg CM aS) (c_cell_of : C8.Cal P w K mg base 2 "_cell_of" (spCellOf CM CH) []) (cmake : C8.Met P w K mg base 2 CH "make" (spMake CH) []) (c_fault : C8.Cal P w K mg base 1 "_fault" (spFault CM CH) []) (cprim_result : C8.Cal P w K mg base 2 "prim_result" (spPrimR K) []) (F : Fun K "_meet_prim" "_meet_prim" sMtPrim f fd) (b : Binds K fd ["machine", "frame", "word"] []) (hm : mg "_meet_prim" = some (.ref f)) : C8.Cal P w K mg base 4 "_meet_prim" (spMt K CM CH fun f => ∃ s i, f = .prim s i) [] := by
  refine cal_of F hm b scMtPrim (fun vs H Q E h => ?_) (fun cdv A outer s H vs Q E hr h => ?_)
  · obtain ⟨p, m, m', nv, gv, co, x, fs, f, n, rfl, _⟩ := h
    rfl
  obtain ⟨p, m, m', nv, gv, co, x, fs, fm, n, rfl, ⟨s0, i0, rfl⟩, M, hF, hgv, hmt, hsm, q⟩ := h
  refine ⟨_, (pss_cons (ps_asg (pv 1) (pg_tup rfl (pgs_cons (pg_name (i := 3) scMtPrim.nd rfl (Or.inl rfl)) (pgs_cons (pg_name (i := 4) scMtPrim.nd rfl (Or.inl rfl)) (pgs_cons (pg_name (i := 5) scMtPrim.nd rfl (Or.inl rfl)) pgs_nil)))))
    (pss_cons (ps_set (i := 6) scMtPrim.nd rfl (Or.inl rfl) (C8.pe_c c_cell_of hr (by decide) rfl (pa_cons (pv 0) (pa_cons (pv 2) pa_nil))))
    (pss_cons (ps_if (pt_cmpR op_ne (pe_ix ix_tup (pv 6) pe_int (fun _ _ => rfl)) pe_str (nomark _))
      (pss_one (ps_ret (C8.pe_gc rfl T.gSTUCK)))
      pss_nil)
    (pss_cons (ps_set (i := 7) scMtPrim.nd rfl (Or.inl rfl) (C8.pe_c cprim_result hr (by decide) rfl (pa_cons (pv 4) (pa_cons (pv 5) (pa_cons (pe_ix ix_tup (pv 6) pe_int (fun _ _ => rfl)) pa_nil)))))
    (pss_cons (ps_if (pt_cmpR op_eq (pe_ix ix_tup (pv 7) pe_int (fun _ _ => rfl)) pe_str (nomark _))
      (pss_one (ps_ret (C8.pe_c c_fault hr (by decide) rfl (pa_cons (pv 0) (pa_cons (pe_ix ix_tup (pv 7) pe_int (fun _ _ => rfl)) pa_nil)))))
      pss_nil)
    (pss_cons (ps_if (pt_cmpR op_eq (pe_ix ix_tup (pv 7) pe_int (fun _ _ => rfl)) pe_str (nomark _))
      (pss_one (ps_ret (pe_tup (pa_cons pe_str (pa_cons (pe_op op_add (pe_op op_mul pe_int (pe_ix ix_tup (pv 7) pe_int (fun _ _ => rfl))) pe_int) pa_nil)))))
      pss_nil)
    (pss_one (ps_ret (pe_tup (pa_cons pe_str (pa_cons (pe_op op_mul pe_int (C8.pe_mt cmake hr (by decide) (pe_fld (pv 0) rfl) (pa_cons (pv 7) pa_nil))) pa_nil))))))))))), ?_⟩
  have stuckQ : ∀ {H1 : Hp}, Same H H1 → n = .stuck → m' = m → Q (.ref aS) H1 := fun s1 e1 e2 => by
    subst e1 e2
    exact q _ _ (KeepM.same s1) (M.same s1) ⟨aS, rfl, T.sSTUCK _⟩
  obtain ⟨ga, gxs, rfl, hga, x1, ys1, rfl, ⟨rfl, _⟩, y2, zs2, rfl, ⟨rfl, hsl⟩, y3, zs3, rfl, hy3, hn⟩ := hgv
  cases (show zs3 = [] from hn)
  cases (show y3 = .int i0 from hy3)
  refine ⟨_, rfl, ga, _, rfl, SqT.of hga, rfl, _, _, rfl, _, _, rfl, _, _, rfl, rfl, ?_⟩
  cases hmt with
  | primNo hv hne =>
    refine ⟨_, rfl, _, rfl, p, m, nv, co, x, _, rfl, M, hv, fun cv H1 s1 hcv => ?_⟩
    obtain ⟨ca, cxs, rfl, hca⟩ := vl_word hcv
    refine ⟨_, rfl, ca, _, 0, _, rfl, rfl, SqT.of hca, at0 _ _, rfl, _, rfl, ?_⟩
    exact nno hne (stuckQ s1 rfl rfl)
  | @primT _ _ j0 _ bb _ hv hsg hi hj hpr =>
    refine ⟨_, rfl, _, rfl, p, m, nv, co, x, _, rfl, M, hv, fun cv H1 s1 hcv => ?_⟩
    obtain ⟨ca, rfl, hca⟩ := vl_num hcv
    refine ⟨_, rfl, ca, _, 0, _, rfl, rfl, SqT.of hca, at0 _ _, rfl, _, rfl, ?_⟩
    refine nyes ?_
    have M1 := M.same s1
    obtain ⟨dx, ho⟩ := M1.o
    refine ⟨_, rfl, _, rfl, _, rfl, ca, _, 1, _, rfl, rfl, SqT.of hca, at1 _ _ _, s0, i0, j0, rfl, hsg, hi, hj, fun v2 H2 s2 hr2 => ?_⟩
    rw [hpr] at hr2
    have M2 := M1.same s2
    obtain ⟨ra, ru, rfl, hra, hru⟩ := hr2
    refine ⟨_, rfl, ra, _, 0, _, rfl, rfl, SqT.of hra, at0 _ _, rfl, _, rfl, ?_⟩
    refine iteF ?_
    refine ⟨_, rfl, ra, _, 0, _, rfl, rfl, SqT.of hra, at0 _ _, rfl, _, rfl, ?_⟩
    refine iteF ?_
    obtain ⟨dx2, ho2⟩ := M2.o
    obtain ⟨⟨dy2, hho2⟩, _⟩ := id M2.h
    refine ⟨_, rfl, p.mo, CM, dx2, _, .ref p.ho, rfl, ho2, T.cl, T.n_heap, fM_heap .., p.ho, dy2, _, rfl, hho2, fldH_no_make .., _, rfl, p, m.cs, _, .con (if bb = true then 1 else 0) [], rfl, M2.h, M2.ok.2.2.2.2.2.1, at_tup hra (ats_cons (at_str' (by decide +kernel)) (ats_cons rfl (ats_cons (ws_of (ws := []) hru) ats_nil))), Nat.le_trans hsm.c (by decide), fun H3 k3 h3 => ?_⟩
    obtain ⟨M3, km3, f3⟩ := M2.cells h3 k3
    refine ⟨_, _, rfl, rfl, .inl ⟨by decide, by decide⟩, by show 2 ≤ sizeLine; decide, fun t ht => ?_⟩
    have s4 := same_new ht (.tup [.str "value", .int (2 * (m.cs.length : Int))])
    exact q _ _ (((KeepM.same (sameT s1 s2)).trans km3).trans (KeepM.same s4)) (M3.same s4) (at_tup upd_same (ats_cons (at_str' (by decide +kernel)) (ats_cons rfl ats_nil)))
  | @primN _ _ j0 x0 _ _ hv hsg hi hj hpr =>
    refine ⟨_, rfl, _, rfl, p, m, nv, co, x, _, rfl, M, hv, fun cv H1 s1 hcv => ?_⟩
    obtain ⟨ca, rfl, hca⟩ := vl_num hcv
    refine ⟨_, rfl, ca, _, 0, _, rfl, rfl, SqT.of hca, at0 _ _, rfl, _, rfl, ?_⟩
    refine nyes ?_
    have M1 := M.same s1
    obtain ⟨dx, ho⟩ := M1.o
    refine ⟨_, rfl, _, rfl, _, rfl, ca, _, 1, _, rfl, rfl, SqT.of hca, at1 _ _ _, s0, i0, j0, rfl, hsg, hi, hj, fun v2 H2 s2 hr2 => ?_⟩
    rw [hpr] at hr2
    have M2 := M1.same s2
    obtain ⟨ra, rfl, hra⟩ := hr2
    refine ⟨_, rfl, ra, _, 0, _, rfl, rfl, SqT.of hra, at0 _ _, rfl, _, rfl, ?_⟩
    refine iteF ?_
    refine ⟨_, rfl, ra, _, 0, _, rfl, rfl, SqT.of hra, at0 _ _, rfl, _, rfl, ?_⟩
    refine iteT ?_
    refine ⟨_, rfl, ra, _, 1, _, rfl, rfl, SqT.of hra, at1 _ _ _, _, _, rfl, rfl, .inl ⟨by decide, by decide⟩, _, _, rfl, rfl, by show 2 ≤ sizeLine; decide, fun t ht => ?_⟩
    have s4 := same_new ht (.tup [.str "value", .int (2 * x0 + 1)])
    exact q _ _ ((KeepM.same (sameT s1 s2)).trans (KeepM.same s4)) (M2.same s4) (at_tup upd_same (ats_cons (at_str' (by decide +kernel)) (ats_cons rfl ats_nil)))
  | @primF _ _ j0 _ ft _ hv hsg hi hj hpr hfl =>
    refine ⟨_, rfl, _, rfl, p, m, nv, co, x, _, rfl, M, hv, fun cv H1 s1 hcv => ?_⟩
    obtain ⟨ca, rfl, hca⟩ := vl_num hcv
    refine ⟨_, rfl, ca, _, 0, _, rfl, rfl, SqT.of hca, at0 _ _, rfl, _, rfl, ?_⟩
    refine nyes ?_
    have M1 := M.same s1
    obtain ⟨dx, ho⟩ := M1.o
    refine ⟨_, rfl, _, rfl, _, rfl, ca, _, 1, _, rfl, rfl, SqT.of hca, at1 _ _ _, s0, i0, j0, rfl, hsg, hi, hj, fun v2 H2 s2 hr2 => ?_⟩
    rw [hpr] at hr2
    have M2 := M1.same s2
    obtain ⟨ra, rfl, hra⟩ := hr2
    refine ⟨_, rfl, ra, _, 0, _, rfl, rfl, hra, at0 _ _, rfl, _, rfl, ?_⟩
    refine iteT ?_
    exact ⟨_, rfl, _, rfl, ra, _, 1, _, rfl, rfl, hra, at1 _ _ _, p, m, nv, co, ft, rfl, M2, hsm, hfl, fun v' H' k' M' hv' => q _ _ ((KeepM.same (sameT s1 s2)).trans k') M' hv'⟩
end
end Toy

set_option Elab.async false
set_option linter.all false
set_option maxRecDepth 100000
set_option maxHeartbeats 4000000
/-! Part L: meetings: apply, case, pick; the size that a meeting needs. -/
namespace Toy
open PySem L2
open PyProof.Rows (envOfC)
theorem noPart {σ : L2.St} {H : Hp} {Q : Option Int → Hp → Prop} (h : Q none H) : tNoPart σ H Q := h
section
variable {P : Program} {w : World} {K : PySem.W.Frag} {mg : Str → Option Value} {base : Heap} {CM CH aS aC : Addr}
abbrev sMtApply : Stmt := topS 47
theorem scMtApply : FnScope ["machine", "frame", "word", "cell", "_", "index", "words", "arity", "body"] ["machine", "frame", "word"] (defScope sMtApply) := ⟨rfl, rfl, rfl, by decide +kernel, rfl, by decide +kernel, by decide +kernel⟩
theorem c_meet_apply {f : Addr} {fd : FuncData} (T : TxtMt K mg CM aS) (c_cell_of : C8.Cal P w K mg base 2 "_cell_of" (spCellOf CM CH) []) (cmake : C8.Met P w K mg base 2 CH "make" (spMake CH) []) (c_is_partial : C8.Cal P w K mg base 1 "_is_partial" (spIsPart CM CH) []) (F : Fun K "_meet_apply" "_meet_apply" sMtApply f fd) (b : Binds K fd ["machine", "frame", "word"] []) (hm : mg "_meet_apply" = some (.ref f)) : C8.Cal P w K mg base 4 "_meet_apply" (spMt K CM CH fun f => ∃ ws, f = .apply ws) [] := by
  refine cal_of F hm b scMtApply (fun vs H Q E h => ?_) (fun cdv A outer s H vs Q E hr h => ?_)
  · obtain ⟨p, m, m', nv, gv, co, x, fs, f, n, rfl, _⟩ := h
    rfl
  obtain ⟨p, m, m', nv, gv, co, x, fs, fm, n, rfl, ⟨ws, rfl⟩, M, hF, hgv, hmt, hsm, q⟩ := h
  refine ⟨_, (pss_cons (ps_set (i := 3) scMtApply.nd rfl (Or.inl rfl) (C8.pe_c c_cell_of hr (by decide) rfl (pa_cons (pv 0) (pa_cons (pv 2) pa_nil))))
    (pss_cons (ps_if (pt_cmpR op_ne (pe_ix ix_tup (pv 3) pe_int (fun _ _ => rfl)) pe_str (nomark _))
      (pss_one (ps_ret (C8.pe_gc rfl T.gSTUCK)))
      pss_nil)
    (pss_cons (ps_asg (pv 3) (pg_tup rfl (pgs_cons (pg_name (i := 4) scMtApply.nd rfl (Or.inl rfl)) (pgs_cons (pg_name (i := 5) scMtApply.nd rfl (Or.inl rfl)) (pgs_cons (pg_name (i := 6) scMtApply.nd rfl (Or.inl rfl)) pgs_nil)))))
    (pss_cons (ps_aug (i := 6) scMtApply.nd rfl (Or.inl rfl) (pe_ix ix_tup (pv 1) pe_int (fun _ _ => rfl)) ip_catA)
    (pss_cons (ps_if (pt_val (C8.pe_c c_is_partial hr (by decide) rfl (pa_cons (pv 0) (pa_cons (pv 3) (pa_cons (pv 1) pa_nil)))))
      (pss_one (ps_ret (pe_tup (pa_cons pe_str (pa_cons (pe_op op_mul pe_int (C8.pe_mt cmake hr (by decide) (pe_fld (pv 0) rfl) (pa_cons (pe_tup (pa_cons pe_str (pa_cons (pv 5) (pa_cons (pv 6) pa_nil)))) pa_nil))) pa_nil)))))
      pss_nil)
    (pss_cons (ps_asg (pe_ix ix_tup (pe_fld (pv 0) rfl) (pv 5) (fun _ _ => rfl)) (pg_tup rfl (pgs_cons (pg_name (i := 7) scMtApply.nd rfl (Or.inl rfl)) (pgs_cons (pg_name (i := 8) scMtApply.nd rfl (Or.inl rfl)) pgs_nil))))
    (pss_cons (ps_if (pt_cmpR op_gt (pe_callB call_len_seq rfl T.zlen PySem.boot_len (pa_cons (pv 6) pa_nil)) (pv 7) (nomark _))
      (pss_one (ps_expr (pe_bm PySem.F.plainAttrs_list PySem.F.slot_list_append PySem.F.type_list_append mt_append (pe_fld (pv 0) rfl) (pa_cons (pe_tup (pa_cons pe_str (pa_cons (pe_slice sl_tupA (pv 6) (po_some (pv 7)) po_none) pa_nil))) pa_nil))))
      pss_nil)
    (pss_one (ps_ret (pe_tup (pa_cons pe_str (pa_cons (pv 8) (pa_cons (pe_slice sl_tupA (pv 6) po_none (po_some (pv 7))) pa_nil))))))))))))), ?_⟩
  have stuckQ : ∀ {H1 : Hp}, Same H H1 → n = .stuck → m' = m → Q (.ref aS) H1 := fun s1 e1 e2 => by
    subst e1 e2
    exact q _ _ (KeepM.same s1) (M.same s1) ⟨aS, rfl, T.sSTUCK _⟩
  obtain ⟨ga, gxs, rfl, hga, x1, ys1, rfl, ⟨rfl, _⟩, y2, zs2, rfl, hy2, hn⟩ := hgv
  obtain ⟨gu, rfl, hgu⟩ := ws_at hy2
  cases (show zs2 = [] from hn)
  cases hmt with
  | applyNo hv hne =>
    refine ⟨_, rfl, _, rfl, p, m, nv, co, x, _, rfl, M, hv, fun cv H1 s1 hcv => ?_⟩
    obtain ⟨ca, cxs, rfl, hca⟩ := vl_word hcv
    refine ⟨_, rfl, ca, _, 0, _, rfl, rfl, SqT.of hca, at0 _ _, rfl, _, rfl, ?_⟩
    exact nno hne (stuckQ s1 rfl rfl)
  | @part _ ar0 i0 bd us _ _ hv hfi hlt hle =>
    refine ⟨_, rfl, _, rfl, p, m, nv, co, x, _, rfl, M, hv, fun cv H1 s1 hcv => ?_⟩
    obtain ⟨ca, cu, rfl, hca, hcu⟩ := vl_part hcv
    refine ⟨_, rfl, ca, _, 0, _, rfl, rfl, SqT.of hca, at0 _ _, rfl, _, rfl, ?_⟩
    refine nyes ?_
    refine ⟨_, rfl, ca, _, rfl, SqT.of hca, rfl, _, _, rfl, _, _, rfl, _, _, rfl, rfl, ?_⟩
    have hga1 := s1 _ _ hga
    have hgu1 := s1 _ _ hgu
    refine ⟨_, rfl, _, rfl, ga, _, 1, _, rfl, rfl, SqT.of hga1, at1 _ _ _, catA_tup hcu hgu1 (by rw [List.length_map, List.length_map, ← List.length_append]; exact Nat.le_of_lt (szl (by omega))) fun u H2 s2 hu2 => ?_⟩
    rw [← List.map_append] at hu2
    have s12 := sameT s1 s2
    have M2 := M.same s12
    obtain ⟨dx, ho⟩ := M2.o
    have hgv2 : (Fm.apply ws).D.At F0 H2 (.ref ga) := at_tup (s12 _ _ hga) (ats_cons (at_str' (by decide +kernel)) (ats_cons (ws_of (s12 _ _ hgu)) ats_nil))
    refine ⟨_, rfl, _, rfl, _, rfl, p, m, nv, .ref ca, .ref ga, co, _, fs, i0, us, ws, bd, rfl, M2, hF.keep (fr_same s12), hcv.keep (fr_same s2), hgv2, hfi, ?_⟩
    refine ⟨_, rfl, ?_⟩
    rw [show decide (((us.length + ws.length : Nat) : Int) < ar0) = true from decide_eq_true (by rw [List.length_append] at hlt; exact hlt)]
    refine iteT ?_
    obtain ⟨⟨dy, hho⟩, _⟩ := id M2.h
    refine ⟨_, rfl, p.mo, CM, dx, _, .ref p.ho, rfl, ho, T.cl, T.n_heap, fM_heap .., p.ho, dy, _, rfl, hho, fldH_no_make .., _, rfl, _, rfl, by show 3 ≤ sizeLine; decide, fun t3 ht3 => ?_⟩
    have s3 := same_new ht3 (.tup [.str "part", .int (i0 : Int), .ref u])
    have M3 := M2.same s3
    refine ⟨p, m.cs, _, .part (i0 : Int) (us ++ ws), rfl, M3.h, M3.ok.2.2.2.2.2.1, at_tup upd_same (ats_cons (at_str' (by decide +kernel)) (ats_cons rfl (ats_cons (ws_of (s3 _ _ hu2)) ats_nil))), Nat.le_trans hsm.c (by decide), fun H4 k4 h4 => ?_⟩
    obtain ⟨M4, km4, f4⟩ := M3.cells h4 k4
    refine ⟨_, _, rfl, rfl, .inl ⟨by decide, by decide⟩, by show 2 ≤ sizeLine; decide, fun t ht => ?_⟩
    have s5 := same_new ht (.tup [.str "value", .int (2 * (m.cs.length : Int))])
    exact q _ _ (((KeepM.same (sameT s12 s3)).trans km4).trans (KeepM.same s5)) (M4.same s5) (at_tup upd_same (ats_cons (at_str' (by decide +kernel)) (ats_cons rfl ats_nil)))
  | @full _ ar0 i0 bd us _ _ hv hfi hlt hle =>
    refine ⟨_, rfl, _, rfl, p, m, nv, co, x, _, rfl, M, hv, fun cv H1 s1 hcv => ?_⟩
    obtain ⟨ca, cu, rfl, hca, hcu⟩ := vl_part hcv
    refine ⟨_, rfl, ca, _, 0, _, rfl, rfl, SqT.of hca, at0 _ _, rfl, _, rfl, ?_⟩
    refine nyes ?_
    refine ⟨_, rfl, ca, _, rfl, SqT.of hca, rfl, _, _, rfl, _, _, rfl, _, _, rfl, rfl, ?_⟩
    have hga1 := s1 _ _ hga
    have hgu1 := s1 _ _ hgu
    refine ⟨_, rfl, _, rfl, ga, _, 1, _, rfl, rfl, SqT.of hga1, at1 _ _ _, catA_tup hcu hgu1 (by rw [List.length_map, List.length_map, ← List.length_append]; exact Nat.le_of_lt (szl (by omega))) fun u H2 s2 hu2 => ?_⟩
    rw [← List.map_append] at hu2
    have s12 := sameT s1 s2
    have M2 := M.same s12
    obtain ⟨dx, ho⟩ := M2.o
    have hgv2 : (Fm.apply ws).D.At F0 H2 (.ref ga) := at_tup (s12 _ _ hga) (ats_cons (at_str' (by decide +kernel)) (ats_cons (ws_of (s12 _ _ hgu)) ats_nil))
    refine ⟨_, rfl, _, rfl, _, rfl, p, m, nv, .ref ca, .ref ga, co, _, fs, i0, us, ws, bd, rfl, M2, hF.keep (fr_same s12), hcv.keep (fr_same s2), hgv2, hfi, ?_⟩
    refine ⟨_, rfl, ?_⟩
    rw [show decide (((us.length + ws.length : Nat) : Int) < (ar0 : Int)) = false from decide_eq_false (by rw [List.length_append] at hlt; omega)]
    refine iteF ?_
    obtain ⟨fa, fxs, hfv, hfa, hfx⟩ := hF.keep (fr_same s12)
    obtain ⟨ft, bv, hft, hft2, hbv⟩ := FsAt.get (a := fa) hfx hfi
    rw [hfv] at ho
    refine ⟨_, rfl, p.mo, CM, dx, _, _, rfl, ho, T.cl, T.n_functions, fM_functions .., _, rfl, fa, _, _, _, rfl, rfl, SqT.of hfa, atI_nat hft, ?_⟩
    refine ⟨ft, _, rfl, SqT.of hft2, rfl, _, _, rfl, _, _, rfl, rfl, ?_⟩
    rw [← hfv] at ho
    refine ⟨_, rfl, u, _, rfl, .inr (SqT.of hu2), _, rfl, _, _, rfl, rfl, _, rfl, ?_⟩
    rw [show decide (((((us ++ ws).map V.int).length : Nat) : Int) > (ar0 : Int)) = false from decide_eq_false (by rw [List.length_map]; omega)]
    refine iteF ?_
    refine ⟨_, rfl, _, rfl, _, rfl, _, rfl, slA_tup hu2 fun u3 H3 s3 hu3 => ⟨by show 3 ≤ sizeLine; decide, fun t ht => ?_⟩⟩
    rw [cut_to _ _ (by rw [List.length_map]; omega), ← List.map_take, ← hlt, List.take_length] at hu3
    have s4 := same_new ht (.tup [.str "eval", bv, .ref u3])
    have sA := sameT s12 (sameT s3 s4)
    exact q _ _ (KeepM.same sA) (M.same sA) (at_tup upd_same (ats_cons (at_str' (by decide +kernel)) (ats_cons ((hbv.keep (fr_same s3)).keep (fr_same s4)) (ats_cons (ws_of (s4 _ _ hu3)) ats_nil))))
  | @over _ ar0 i0 bd us _ _ hv hfi hlt hle =>
    refine ⟨_, rfl, _, rfl, p, m, nv, co, x, _, rfl, M, hv, fun cv H1 s1 hcv => ?_⟩
    obtain ⟨ca, cu, rfl, hca, hcu⟩ := vl_part hcv
    refine ⟨_, rfl, ca, _, 0, _, rfl, rfl, SqT.of hca, at0 _ _, rfl, _, rfl, ?_⟩
    refine nyes ?_
    refine ⟨_, rfl, ca, _, rfl, SqT.of hca, rfl, _, _, rfl, _, _, rfl, _, _, rfl, rfl, ?_⟩
    have hga1 := s1 _ _ hga
    have hgu1 := s1 _ _ hgu
    refine ⟨_, rfl, _, rfl, ga, _, 1, _, rfl, rfl, SqT.of hga1, at1 _ _ _, catA_tup hcu hgu1 (by rw [List.length_map, List.length_map, ← List.length_append]; exact Nat.le_of_lt (szl (by omega))) fun u H2 s2 hu2 => ?_⟩
    rw [← List.map_append] at hu2
    have s12 := sameT s1 s2
    have M2 := M.same s12
    obtain ⟨dx, ho⟩ := M2.o
    have hgv2 : (Fm.apply ws).D.At F0 H2 (.ref ga) := at_tup (s12 _ _ hga) (ats_cons (at_str' (by decide +kernel)) (ats_cons (ws_of (s12 _ _ hgu)) ats_nil))
    refine ⟨_, rfl, _, rfl, _, rfl, p, m, nv, .ref ca, .ref ga, co, _, fs, i0, us, ws, bd, rfl, M2, hF.keep (fr_same s12), hcv.keep (fr_same s2), hgv2, hfi, ?_⟩
    refine ⟨_, rfl, ?_⟩
    rw [show decide (((us.length + ws.length : Nat) : Int) < (ar0 : Int)) = false from decide_eq_false (by rw [List.length_append] at hlt; omega)]
    refine iteF ?_
    obtain ⟨fa, fxs, hfv, hfa, hfx⟩ := hF.keep (fr_same s12)
    obtain ⟨ft, bv, hft, hft2, hbv⟩ := FsAt.get (a := fa) hfx hfi
    rw [hfv] at ho
    refine ⟨_, rfl, p.mo, CM, dx, _, _, rfl, ho, T.cl, T.n_functions, fM_functions .., _, rfl, fa, _, _, _, rfl, rfl, SqT.of hfa, atI_nat hft, ?_⟩
    refine ⟨ft, _, rfl, SqT.of hft2, rfl, _, _, rfl, _, _, rfl, rfl, ?_⟩
    rw [← hfv] at ho
    refine ⟨_, rfl, u, _, rfl, .inr (SqT.of hu2), _, rfl, _, _, rfl, rfl, _, rfl, ?_⟩
    rw [show decide (((((us ++ ws).map V.int).length : Nat) : Int) > (ar0 : Int)) = true from decide_eq_true (by rw [List.length_map]; omega)]
    refine iteT ?_
    obtain ⟨ss, hss, hsz⟩ := stk_len M2 hsm
    refine ⟨_, rfl, p.mo, CM, dx, _, .ref p.sa, rfl, ho, T.cl, T.n_stack, fM_stack .., .inl ⟨rfl, _, SqL.of hss⟩, _, rfl, _, rfl, _, rfl, noPart (slA_tup hu2 fun u3 H3 s3 hu3 => ⟨by show 2 ≤ sizeLine; decide, fun t4 ht4 => ?_⟩)⟩
    rw [cut_from _ _ (by rw [List.length_map]; omega), ← List.map_drop] at hu3
    have s4 := same_new ht4 (.tup [.str "apply", .ref u3])
    have s34 := sameT s3 s4
    have hev : (Fm.apply ((us ++ ws).drop ar0)).D.At F0 (upd H3 t4 (.tup [.str "apply", .ref u3])) (.ref t4) := at_tup upd_same (ats_cons (at_str' (by decide +kernel)) (ats_cons (ws_of (s4 _ _ hu3)) ats_nil))
    generalize upd H3 t4 (.tup [.str "apply", .ref u3]) = H4 at s4 s34 hev ⊢
    refine ⟨p.sa, _, _, rfl, rfl, s34 _ _ hss, hsz, ?_⟩
    obtain ⟨M5, k5, f5⟩ := (M2.same s34).push (s34 _ _ hss) hev
    generalize upd H4 p.sa (.lst (ss ++ [.ref t4])) = H5 at M5 k5 f5 ⊢
    refine ⟨_, rfl, _, rfl, _, rfl, _, rfl, slA_tup (f5.1 _ _ (s34 _ _ hu2)) fun u6 H6 s6 hu6 => ⟨by show 3 ≤ sizeLine; decide, fun t ht => ?_⟩⟩
    rw [cut_to _ _ (by rw [List.length_map]; omega), ← List.map_take] at hu6
    have s7 := same_new ht (.tup [.str "eval", bv, .ref u6])
    exact q _ _ (((KeepM.same (sameT s12 s34)).trans k5).trans (KeepM.same (sameT s6 s7))) (M5.same (sameT s6 s7)) (at_tup upd_same (ats_cons (at_str' (by decide +kernel)) (ats_cons (((hbv.keep (fr_same s34)).keep f5).keep (fr_same (sameT s6 s7))) (ats_cons (ws_of (s7 _ _ hu6)) ats_nil))))
abbrev sMtCase : Stmt := topS 48
theorem scMtCase : FnScope ["machine", "frame", "word", "_", "alternatives", "default", "words", "cell", "tag", "count", "body"] ["machine", "frame", "word"] (defScope sMtCase) := ⟨rfl, rfl, rfl, by decide +kernel, rfl, by decide +kernel, by decide +kernel⟩
theorem c_meet_case {f : Addr} {fd : FuncData} (T : TxtMt K mg CM aS) (c_cell_of : C8.Cal P w K mg base 2 "_cell_of" (spCellOf CM CH) []) (c_choose_default : C8.Cal P w K mg base 2 "_choose_default" (spChDef K CM CH) []) (F : Fun K "_meet_case" "_meet_case" sMtCase f fd) (b : Binds K fd ["machine", "frame", "word"] []) (hm : mg "_meet_case" = some (.ref f)) : C8.Cal P w K mg base 4 "_meet_case" (spMt K CM CH fun f => ∃ rows d ws, f = .ch true rows d ws) [] := by
  refine cal_of F hm b scMtCase (fun vs H Q E h => ?_) (fun cdv A outer s H vs Q E hr h => ?_)
  · obtain ⟨p, m, m', nv, gv, co, x, fs, f, n, rfl, _⟩ := h
    rfl
  obtain ⟨p, m, m', nv, gv, co, x, fs, fm, n, rfl, ⟨rows, d, ws, rfl⟩, M, hF, hgv, hmt, hsm, q⟩ := h
  refine ⟨_, (pss_cons (ps_asg (pv 1) (pg_tup rfl (pgs_cons (pg_name (i := 3) scMtCase.nd rfl (Or.inl rfl)) (pgs_cons (pg_name (i := 4) scMtCase.nd rfl (Or.inl rfl)) (pgs_cons (pg_name (i := 5) scMtCase.nd rfl (Or.inl rfl)) (pgs_cons (pg_name (i := 6) scMtCase.nd rfl (Or.inl rfl)) pgs_nil))))))
    (pss_cons (ps_set (i := 7) scMtCase.nd rfl (Or.inl rfl) (C8.pe_c c_cell_of hr (by decide) rfl (pa_cons (pv 0) (pa_cons (pv 2) pa_nil))))
    (pss_cons (ps_if (pt_cmpR op_ne (pe_ix ix_tup (pv 7) pe_int (fun _ _ => rfl)) pe_str (nomark _))
      (pss_one (ps_ret (C8.pe_gc rfl T.gSTUCK)))
      pss_nil)
    (pss_cons (ps_for PassesOwn.never rfl (pi_tup (pv 4)) (pg_tup rfl (pgs_cons (pg_name (i := 8) scMtCase.nd rfl (Or.inl rfl)) (pgs_cons (pg_name (i := 9) scMtCase.nd rfl (Or.inl rfl)) (pgs_cons (pg_name (i := 10) scMtCase.nd rfl (Or.inl rfl)) pgs_nil))))
      (pss_one (ps_if (PW.pt (pw_and (pt_cmpR op_eq (pv 8) (pe_ix ix_tup (pv 7) pe_int (fun _ _ => rfl)) (nomark _)) (pw_and1 (pt_cmpR op_eq (pv 9) (pe_callB call_len_seq rfl T.zlen PySem.boot_len (pa_cons (pe_ix ix_tup (pv 7) pe_int (fun _ _ => rfl)) pa_nil)) (nomark _)))))
      (pss_one (ps_ret (pe_tup (pa_cons pe_str (pa_cons (pv 10) (pa_cons (pe_op op_catA (pv 6) (pe_ix ix_tup (pv 7) pe_int (fun _ _ => rfl))) pa_nil))))))
      pss_nil)))
    (pss_one (ps_ret (C8.pe_c c_choose_default hr (by decide) rfl (pa_cons (pv 0) (pa_cons (pv 5) (pa_cons (pv 6) (pa_cons (pv 2) pa_nil))))))))))), ?_⟩
  have stuckQ : ∀ {H1 : Hp}, Same H H1 → n = .stuck → m' = m → Q (.ref aS) H1 := fun s1 e1 e2 => by
    subst e1 e2
    exact q _ _ (KeepM.same s1) (M.same s1) ⟨aS, rfl, T.sSTUCK _⟩
  obtain ⟨ga, gxs, rfl, hga, x1, ys1, rfl, ⟨rfl, _⟩, y2, zs2, rfl, ⟨ra, rxs, rfl, hra, hrx⟩, y3, zs3, rfl, hy3, y4, zs4, rfl, hy4, hn⟩ := hgv
  cases (show zs4 = [] from hn)
  obtain ⟨wa, rfl, hwa⟩ := ws_at hy4
  have hrl := ats_len hrx
  refine ⟨_, rfl, ga, _, rfl, SqT.of hga, rfl, _, _, rfl, _, _, rfl, _, _, rfl, _, _, rfl, rfl, ?_⟩
  cases hmt with
  | caseNo hv hne =>
    refine ⟨_, rfl, _, rfl, p, m, nv, co, x, _, rfl, M, hv, fun cv H1 s1 hcv => ?_⟩
    obtain ⟨ca, cxs, rfl, hca⟩ := vl_word hcv
    refine ⟨_, rfl, ca, _, 0, _, rfl, rfl, SqT.of hca, at0 _ _, rfl, _, rfl, ?_⟩
    exact nno hne (stuckQ s1 rfl rfl)
  | @case _ t0 _ _ bd us _ _ hrw hrl2 hv hsel hwl =>
    refine ⟨_, rfl, _, rfl, p, m, nv, co, x, _, rfl, M, hv, fun cv H1 s1 hcv => ?_⟩
    obtain ⟨ca, cu, rfl, hca, hcu⟩ := vl_con hcv
    refine ⟨_, rfl, ca, _, 0, _, rfl, rfl, SqT.of hca, at0 _ _, rfl, _, rfl, ?_⟩
    refine nyes ?_
    refine ⟨_, rfl, ra, rfl, ⟨_, SqT.of (s1 _ _ hra)⟩, for_tup (a := ra) (xs := rxs) (fun i σ G => ∃ (v8 v9 v10 : Option V), σ = [some (.ref p.mo), some (.ref ga), some (.int x), some (.str (chW true)), some (.ref ra), some y3, some (.ref wa), some (.ref ca), v8, v9, v10] ∧ G = H1 ∧ selC t0 ((us.length : Nat) : Int) (rows.drop i) = selC t0 ((us.length : Nat) : Int) rows)
      ⟨_, _, _, rfl, rfl, rfl⟩ (fun i σ G _ ⟨_, _, _, _, h, _⟩ => by rw [h]; exact SqT.of (s1 _ _ hra)) ?_ ?_⟩
    · rintro i z σ G hx ⟨v8, v9, v10, rfl, rfl, hfd⟩
      obtain ⟨qq, hq, hqa⟩ := ats_get hrx hx
      obtain ⟨ti, ci, bb, rfl⟩ := hrw qq (List.mem_of_getElem? hq)
      obtain ⟨tt, ts, rfl, htt, u1, w1, rfl, hu1, u2, w2, rfl, hu2, u3, w3, rfl, hu3, hn3⟩ := hqa
      cases (show w3 = [] from hn3)
      cases (show u1 = .int ti from hu1)
      cases (show u2 = .int ci from hu2)
      refine ⟨tt, _, rfl, SqT.of (s1 _ _ htt), rfl, _, _, rfl, _, _, rfl, _, _, rfl, rfl, ?_⟩
      have hsl : selC t0 ((us.length : Nat) : Int) (.tup [.int ti, .int ci, bb] :: rows.drop (i + 1)) = (if ti = t0 ∧ ci = ((us.length : Nat) : Int) then some bb else selC t0 ((us.length : Nat) : Int) (rows.drop (i + 1))) := rfl
      rw [drop_at hq, hsl] at hfd
      refine ⟨_, rfl, _, rfl, ca, _, 1, _, rfl, rfl, SqT.of hca, at1 _ _ _, rfl, _, rfl, ?_⟩
      show if decide (V.int ti = V.int t0) = true then _ else _
      by_cases c1 : ti = t0
      · rw [ieq c1]
        refine iteT ?_
        refine ⟨_, rfl, _, rfl, ca, _, 2, _, rfl, rfl, SqT.of hca, at2 _ _ _ _, cu, _, rfl, .inr (SqT.of hcu), rfl, _, rfl, ?_⟩
        show if decide (V.int ci = V.int (((us.map V.int).length : Nat) : Int)) = true then _ else _
        rw [List.length_map]
        by_cases c2 : ci = ((us.length : Nat) : Int)
        · rw [ieq c2]
          refine iteT ?_
          rw [if_pos ⟨c1, c2⟩] at hfd
          have eb : bb = bd := by rw [hsel] at hfd; exact Option.some.inj hfd
          subst eb
          refine ⟨_, rfl, _, rfl, _, rfl, ca, _, 2, _, rfl, rfl, SqT.of hca, at2 _ _ _ _, catA_tup (s1 _ _ hwa) hcu (by rw [List.length_map, List.length_map]; exact Nat.le_of_lt (szl (by omega))) fun u4 H4 s4 hu4 => ⟨by show 3 ≤ sizeLine; decide, fun t ht => ?_⟩⟩
          rw [← List.map_append] at hu4
          have s5 := same_new ht (.tup [.str "eval", u3, .ref u4])
          have sA := sameT s1 (sameT s4 s5)
          exact q _ _ (KeepM.same sA) (M.same sA) (at_tup upd_same (ats_cons (at_str' (by decide +kernel)) (ats_cons (hu3.keep (fr_same sA)) (ats_cons (ws_of (s5 _ _ hu4)) ats_nil))))
        · rw [ine c2]
          refine iteF ?_
          rw [if_neg (fun h => c2 h.2)] at hfd
          exact ⟨_, _, _, rfl, rfl, hfd⟩
      · rw [ine c1]
        refine iteF ?_
        rw [if_neg (fun h => c1 h.1)] at hfd
        exact ⟨_, _, _, rfl, rfl, hfd⟩
    · rintro σ G ⟨v8, v9, v10, rfl, rfl, hfd⟩
      rw [hrl, List.drop_length] at hfd
      exact absurd (hsel.symm.trans hfd.symm) (fun h => by cases h)
  | @caseD _ t0 _ _ us _ _ _ _ hrw hrl2 hv hsel hdf =>
    refine ⟨_, rfl, _, rfl, p, m, nv, co, x, _, rfl, M, hv, fun cv H1 s1 hcv => ?_⟩
    obtain ⟨ca, cu, rfl, hca, hcu⟩ := vl_con hcv
    refine ⟨_, rfl, ca, _, 0, _, rfl, rfl, SqT.of hca, at0 _ _, rfl, _, rfl, ?_⟩
    refine nyes ?_
    refine ⟨_, rfl, ra, rfl, ⟨_, SqT.of (s1 _ _ hra)⟩, for_tup (a := ra) (xs := rxs) (fun i σ G => ∃ (v8 v9 v10 : Option V), σ = [some (.ref p.mo), some (.ref ga), some (.int x), some (.str (chW true)), some (.ref ra), some y3, some (.ref wa), some (.ref ca), v8, v9, v10] ∧ G = H1 ∧ selC t0 ((us.length : Nat) : Int) (rows.drop i) = selC t0 ((us.length : Nat) : Int) rows)
      ⟨_, _, _, rfl, rfl, rfl⟩ (fun i σ G _ ⟨_, _, _, _, h, _⟩ => by rw [h]; exact SqT.of (s1 _ _ hra)) ?_ ?_⟩
    · rintro i z σ G hx ⟨v8, v9, v10, rfl, rfl, hfd⟩
      obtain ⟨qq, hq, hqa⟩ := ats_get hrx hx
      obtain ⟨ti, ci, bb, rfl⟩ := hrw qq (List.mem_of_getElem? hq)
      obtain ⟨tt, ts, rfl, htt, u1, w1, rfl, hu1, u2, w2, rfl, hu2, u3, w3, rfl, hu3, hn3⟩ := hqa
      cases (show w3 = [] from hn3)
      cases (show u1 = .int ti from hu1)
      cases (show u2 = .int ci from hu2)
      refine ⟨tt, _, rfl, SqT.of (s1 _ _ htt), rfl, _, _, rfl, _, _, rfl, _, _, rfl, rfl, ?_⟩
      have hsl : selC t0 ((us.length : Nat) : Int) (.tup [.int ti, .int ci, bb] :: rows.drop (i + 1)) = (if ti = t0 ∧ ci = ((us.length : Nat) : Int) then some bb else selC t0 ((us.length : Nat) : Int) (rows.drop (i + 1))) := rfl
      rw [drop_at hq, hsl] at hfd
      refine ⟨_, rfl, _, rfl, ca, _, 1, _, rfl, rfl, SqT.of hca, at1 _ _ _, rfl, _, rfl, ?_⟩
      show if decide (V.int ti = V.int t0) = true then _ else _
      by_cases c1 : ti = t0
      · rw [ieq c1]
        refine iteT ?_
        refine ⟨_, rfl, _, rfl, ca, _, 2, _, rfl, rfl, SqT.of hca, at2 _ _ _ _, cu, _, rfl, .inr (SqT.of hcu), rfl, _, rfl, ?_⟩
        show if decide (V.int ci = V.int (((us.map V.int).length : Nat) : Int)) = true then _ else _
        rw [List.length_map]
        by_cases c2 : ci = ((us.length : Nat) : Int)
        · rw [ieq c2]
          refine iteT ?_
          rw [if_pos ⟨c1, c2⟩] at hfd
          exact absurd (hsel.symm.trans hfd.symm) (fun h => by cases h)
        · rw [ine c2]
          refine iteF ?_
          rw [if_neg (fun h => c2 h.2)] at hfd
          exact ⟨_, _, _, rfl, rfl, hfd⟩
      · rw [ine c1]
        refine iteF ?_
        rw [if_neg (fun h => c1 h.1)] at hfd
        exact ⟨_, _, _, rfl, rfl, hfd⟩
    · rintro σ G ⟨v8, v9, v10, rfl, rfl, hfd⟩
      exact ⟨_, rfl, _, rfl, _, rfl, _, rfl, p, m, m', nv, y3, .ref wa, co, x, d, ws, n, rfl, M.same s1, hsm, hy3.keep (fr_same s1), hy4.keep (fr_same s1), hdf, fun v' H' k' M' hv' => q _ _ ((KeepM.same s1).trans k') M' hv'⟩
abbrev sMtPick : Stmt := topS 49
theorem scMtPick : FnScope ["machine", "frame", "word", "_", "alternatives", "default", "words", "cell", "number", "body"] ["machine", "frame", "word"] (defScope sMtPick) := ⟨rfl, rfl, rfl, by decide +kernel, rfl, by decide +kernel, by decide +kernel⟩
theorem c_meet_pick {f : Addr} {fd : FuncData} (T : TxtMt K mg CM aS) (c_cell_of : C8.Cal P w K mg base 2 "_cell_of" (spCellOf CM CH) []) (c_choose_default : C8.Cal P w K mg base 2 "_choose_default" (spChDef K CM CH) []) (F : Fun K "_meet_pick" "_meet_pick" sMtPick f fd) (b : Binds K fd ["machine", "frame", "word"] []) (hm : mg "_meet_pick" = some (.ref f)) : C8.Cal P w K mg base 4 "_meet_pick" (spMt K CM CH fun f => ∃ rows d ws, f = .ch false rows d ws) [] := by
  refine cal_of F hm b scMtPick (fun vs H Q E h => ?_) (fun cdv A outer s H vs Q E hr h => ?_)
  · obtain ⟨p, m, m', nv, gv, co, x, fs, f, n, rfl, _⟩ := h
    rfl
  obtain ⟨p, m, m', nv, gv, co, x, fs, fm, n, rfl, ⟨rows, d, ws, rfl⟩, M, hF, hgv, hmt, hsm, q⟩ := h
  refine ⟨_, (pss_cons (ps_asg (pv 1) (pg_tup rfl (pgs_cons (pg_name (i := 3) scMtPick.nd rfl (Or.inl rfl)) (pgs_cons (pg_name (i := 4) scMtPick.nd rfl (Or.inl rfl)) (pgs_cons (pg_name (i := 5) scMtPick.nd rfl (Or.inl rfl)) (pgs_cons (pg_name (i := 6) scMtPick.nd rfl (Or.inl rfl)) pgs_nil))))))
    (pss_cons (ps_set (i := 7) scMtPick.nd rfl (Or.inl rfl) (C8.pe_c c_cell_of hr (by decide) rfl (pa_cons (pv 0) (pa_cons (pv 2) pa_nil))))
    (pss_cons (ps_if (pt_cmpR op_ne (pe_ix ix_tup (pv 7) pe_int (fun _ _ => rfl)) pe_str (nomark _))
      (pss_one (ps_ret (C8.pe_gc rfl T.gSTUCK)))
      pss_nil)
    (pss_cons (ps_for PassesOwn.never rfl (pi_tup (pv 4)) (pg_tup rfl (pgs_cons (pg_name (i := 8) scMtPick.nd rfl (Or.inl rfl)) (pgs_cons (pg_name (i := 9) scMtPick.nd rfl (Or.inl rfl)) pgs_nil)))
      (pss_one (ps_if (pt_cmpR op_eq (pv 8) (pe_ix ix_tup (pv 7) pe_int (fun _ _ => rfl)) (nomark _))
      (pss_one (ps_ret (pe_tup (pa_cons pe_str (pa_cons (pv 9) (pa_cons (pv 6) pa_nil))))))
      pss_nil)))
    (pss_one (ps_ret (C8.pe_c c_choose_default hr (by decide) rfl (pa_cons (pv 0) (pa_cons (pv 5) (pa_cons (pv 6) (pa_cons (pv 2) pa_nil))))))))))), ?_⟩
  have stuckQ : ∀ {H1 : Hp}, Same H H1 → n = .stuck → m' = m → Q (.ref aS) H1 := fun s1 e1 e2 => by
    subst e1 e2
    exact q _ _ (KeepM.same s1) (M.same s1) ⟨aS, rfl, T.sSTUCK _⟩
  obtain ⟨ga, gxs, rfl, hga, x1, ys1, rfl, ⟨rfl, _⟩, y2, zs2, rfl, ⟨ra, rxs, rfl, hra, hrx⟩, y3, zs3, rfl, hy3, y4, zs4, rfl, hy4, hn⟩ := hgv
  cases (show zs4 = [] from hn)
  obtain ⟨wa, rfl, hwa⟩ := ws_at hy4
  have hrl := ats_len hrx
  refine ⟨_, rfl, ga, _, rfl, SqT.of hga, rfl, _, _, rfl, _, _, rfl, _, _, rfl, _, _, rfl, rfl, ?_⟩
  cases hmt with
  | pickNo hv hne =>
    refine ⟨_, rfl, _, rfl, p, m, nv, co, x, _, rfl, M, hv, fun cv H1 s1 hcv => ?_⟩
    obtain ⟨ca, cxs, rfl, hca⟩ := vl_word hcv
    refine ⟨_, rfl, ca, _, 0, _, rfl, rfl, SqT.of hca, at0 _ _, rfl, _, rfl, ?_⟩
    exact nno hne (stuckQ s1 rfl rfl)
  | @pick _ k0 _ _ bd _ _ hrw hrl2 hv hsel =>
    refine ⟨_, rfl, _, rfl, p, m, nv, co, x, _, rfl, M, hv, fun cv H1 s1 hcv => ?_⟩
    obtain ⟨ca, rfl, hca⟩ := vl_num hcv
    refine ⟨_, rfl, ca, _, 0, _, rfl, rfl, SqT.of hca, at0 _ _, rfl, _, rfl, ?_⟩
    refine nyes ?_
    refine ⟨_, rfl, ra, rfl, ⟨_, SqT.of (s1 _ _ hra)⟩, for_tup (a := ra) (xs := rxs) (fun i σ G => ∃ (v8 v9 : Option V), σ = [some (.ref p.mo), some (.ref ga), some (.int x), some (.str (chW false)), some (.ref ra), some y3, some (.ref wa), some (.ref ca), v8, v9] ∧ G = H1 ∧ selP k0 (rows.drop i) = selP k0 rows)
      ⟨_, _, rfl, rfl, rfl⟩ (fun i σ G _ ⟨_, _, _, h, _⟩ => by rw [h]; exact SqT.of (s1 _ _ hra)) ?_ ?_⟩
    · rintro i z σ G hx ⟨v8, v9, rfl, rfl, hfd⟩
      obtain ⟨qq, hq, hqa⟩ := ats_get hrx hx
      obtain ⟨ti, bb, rfl⟩ := hrw qq (List.mem_of_getElem? hq)
      obtain ⟨tt, ts, rfl, htt, u1, w1, rfl, hu1, u3, w3, rfl, hu3, hn3⟩ := hqa
      cases (show w3 = [] from hn3)
      cases (show u1 = .int ti from hu1)
      refine ⟨tt, _, rfl, SqT.of (s1 _ _ htt), rfl, _, _, rfl, _, _, rfl, rfl, ?_⟩
      have hsl : selP k0 (.tup [.int ti, bb] :: rows.drop (i + 1)) = (if ti = k0 then some bb else selP k0 (rows.drop (i + 1))) := rfl
      rw [drop_at hq, hsl] at hfd
      refine ⟨_, rfl, _, rfl, ca, _, 1, _, rfl, rfl, SqT.of hca, at1 _ _ _, rfl, _, rfl, ?_⟩
      show if decide (V.int ti = V.int k0) = true then _ else _
      by_cases c1 : ti = k0
      · rw [ieq c1]
        refine iteT ?_
        rw [if_pos c1] at hfd
        have eb : bb = bd := by rw [hsel] at hfd; exact Option.some.inj hfd
        subst eb
        refine ⟨_, rfl, _, rfl, by show 3 ≤ sizeLine; decide, fun t ht => ?_⟩
        have s5 := same_new ht (.tup [.str "eval", u3, .ref wa])
        have sA := sameT s1 s5
        exact q _ _ (KeepM.same sA) (M.same sA) (at_tup upd_same (ats_cons (at_str' (by decide +kernel)) (ats_cons (hu3.keep (fr_same sA)) (ats_cons (ws_of (sA _ _ hwa)) ats_nil))))
      · rw [ine c1]
        refine iteF ?_
        rw [if_neg c1] at hfd
        exact ⟨_, _, rfl, rfl, hfd⟩
    · rintro σ G ⟨v8, v9, rfl, rfl, hfd⟩
      rw [hrl, List.drop_length] at hfd
      exact absurd (hsel.symm.trans hfd.symm) (fun h => by cases h)
  | @pickD _ k0 _ _ _ _ _ _ hrw hrl2 hv hsel hdf =>
    refine ⟨_, rfl, _, rfl, p, m, nv, co, x, _, rfl, M, hv, fun cv H1 s1 hcv => ?_⟩
    obtain ⟨ca, rfl, hca⟩ := vl_num hcv
    refine ⟨_, rfl, ca, _, 0, _, rfl, rfl, SqT.of hca, at0 _ _, rfl, _, rfl, ?_⟩
    refine nyes ?_
    refine ⟨_, rfl, ra, rfl, ⟨_, SqT.of (s1 _ _ hra)⟩, for_tup (a := ra) (xs := rxs) (fun i σ G => ∃ (v8 v9 : Option V), σ = [some (.ref p.mo), some (.ref ga), some (.int x), some (.str (chW false)), some (.ref ra), some y3, some (.ref wa), some (.ref ca), v8, v9] ∧ G = H1 ∧ selP k0 (rows.drop i) = selP k0 rows)
      ⟨_, _, rfl, rfl, rfl⟩ (fun i σ G _ ⟨_, _, _, h, _⟩ => by rw [h]; exact SqT.of (s1 _ _ hra)) ?_ ?_⟩
    · rintro i z σ G hx ⟨v8, v9, rfl, rfl, hfd⟩
      obtain ⟨qq, hq, hqa⟩ := ats_get hrx hx
      obtain ⟨ti, bb, rfl⟩ := hrw qq (List.mem_of_getElem? hq)
      obtain ⟨tt, ts, rfl, htt, u1, w1, rfl, hu1, u3, w3, rfl, hu3, hn3⟩ := hqa
      cases (show w3 = [] from hn3)
      cases (show u1 = .int ti from hu1)
      refine ⟨tt, _, rfl, SqT.of (s1 _ _ htt), rfl, _, _, rfl, _, _, rfl, rfl, ?_⟩
      have hsl : selP k0 (.tup [.int ti, bb] :: rows.drop (i + 1)) = (if ti = k0 then some bb else selP k0 (rows.drop (i + 1))) := rfl
      rw [drop_at hq, hsl] at hfd
      refine ⟨_, rfl, _, rfl, ca, _, 1, _, rfl, rfl, SqT.of hca, at1 _ _ _, rfl, _, rfl, ?_⟩
      show if decide (V.int ti = V.int k0) = true then _ else _
      by_cases c1 : ti = k0
      · rw [ieq c1]
        refine iteT ?_
        rw [if_pos c1] at hfd
        exact absurd (hsel.symm.trans hfd.symm) (fun h => by cases h)
      · rw [ine c1]
        refine iteF ?_
        rw [if_neg c1] at hfd
        exact ⟨_, _, rfl, rfl, hfd⟩
    · rintro σ G ⟨v8, v9, rfl, rfl, hfd⟩
      exact ⟨_, rfl, _, rfl, _, rfl, _, rfl, p, m, m', nv, y3, .ref wa, co, x, d, ws, n, rfl, M.same s1, hsm, hy3.keep (fr_same s1), hy4.keep (fr_same s1), hdf, fun v' H' k' M' hv' => q _ _ ((KeepM.same s1).trans k') M' hv'⟩
structure TxtSz (K : PySem.W.Frag) (mg : Str → Option Value) (C aS aC : Addr) : Prop extends TxtMt K mg C aS where
  gCOMPARISONS : ∃ u, mg "COMPARISONS" = some u ∧ RelV (.ref aC) u
  sCOMPARISONS : ∀ H, SqT K H aC (ineqs.map V.str)
abbrev sSizeMt : Stmt := topS 39
theorem scSizeMt : FnScope ["machine", "frame", "word", "cell"] ["machine", "frame", "word"] (defScope sSizeMt) := ⟨rfl, rfl, rfl, by decide +kernel, rfl, by decide +kernel, by decide +kernel⟩
def spSizeMt (CM CH : Addr) : Sp := fun vs H Q _ => ∃ (p : Pl) (m : Mc) (nv gv : V) (co x : Int) (fs : List (Int × Dd)) (f : Fm) (l : Vl), vs = [.ref p.mo, gv, .int x] ∧ MkAt CM CH H p m nv co ∧ FsAt H fs p.fv ∧ f.D.At F0 H gv ∧ VlS x m l ∧ (∀ ws i us, f = .apply ws → l = .cell (.part i us) → ∃ (k : Nat) (ar : Int) (b : Dd), i = (k : Int) ∧ fs[k]? = some (ar, b)) ∧ ∀ H', Same H H' → Q (.int (needM fs f l)) H'
theorem fm_word {H : Hp} {f : Fm} {v : V} (h : f.D.At F0 H v) : ∃ a xs, v = .ref a ∧ H a = some (.tup (.str f.word :: xs)) := by
  cases f <;> (obtain ⟨a, xs, rfl, ha, x, ys, rfl, ⟨rfl, _⟩, hy⟩ := h; exact ⟨a, _, rfl, ha⟩)
theorem c_sizemt {f : Addr} {fd : FuncData} (T : TxtSz K mg CM aS aC) (c_cell_of : C8.Cal P w K mg base 2 "_cell_of" (spCellOf CM CH) []) (csize_of : C8.Cal P w K mg base 1 "size_of" (spSize K) []) (c_is_partial : C8.Cal P w K mg base 1 "_is_partial" (spIsPart CM CH) []) (F : Fun K "size_to_meet" "size_to_meet" sSizeMt f fd) (b : Binds K fd ["machine", "frame", "word"] []) (hm : mg "size_to_meet" = some (.ref f)) : C8.Cal P w K mg base 3 "size_to_meet" (spSizeMt CM CH) [] := by
  refine cal_of F hm b scSizeMt (fun vs H Q E h => ?_) (fun cdv A outer s H vs Q E hr h => ?_)
  · obtain ⟨p, m, nv, gv, co, x, fs, f, l, rfl, _⟩ := h
    rfl
  obtain ⟨p, m, nv, gv, co, x, fs, fm, l, rfl, M, hF, hgv, hv, hpt, q⟩ := h
  refine ⟨_, (pss_cons (ps_set (i := 3) scSizeMt.nd rfl (Or.inl rfl) (C8.pe_c c_cell_of hr (by decide) rfl (pa_cons (pv 0) (pa_cons (pv 2) pa_nil))))
    (C8.pss_cut (ps_if (PW.pt (pw_and (pt_cmpR op_eq (pe_ix ix_tup (pv 1) pe_int (fun _ _ => rfl)) pe_str (nomark _)) (pw_and (pt_cmpR op_eq (pe_ix ix_tup (pv 3) pe_int (fun _ _ => rfl)) pe_str (nomark _)) (pw_and1 (pt_val (C8.pe_c c_is_partial hr (by decide) rfl (pa_cons (pv 0) (pa_cons (pv 3) (pa_cons (pv 1) pa_nil)))))))))
      (pss_one (ps_ret (pe_op op_add (C8.pe_c csize_of hr (by decide) rfl (pa_cons (pv 3) pa_nil)) (pe_callB call_len_seq rfl T.zlen PySem.boot_len (pa_cons (pe_ix ix_tup (pv 1) pe_int (fun _ _ => rfl)) pa_nil)))))
      pss_nil)
    (pss_cons (ps_if (PW.pt (pw_and (pt_cmpR op_eq (pe_ix ix_tup (pv 1) pe_int (fun _ _ => rfl)) pe_str (nomark _)) (pw_and (pt_cmpR op_eq (pe_ix ix_tup (pv 3) pe_int (fun _ _ => rfl)) pe_str (nomark _)) (pw_and1 (pt_cmpR op_in_seq (pe_ix ix_tup (pv 1) pe_int (fun _ _ => rfl)) (C8.pe_gc rfl T.gCOMPARISONS) rfl)))))
      (pss_one (ps_ret pe_int))
      pss_nil)
    (pss_one (ps_ret pe_int))))), ?_⟩
  refine ⟨_, rfl, _, rfl, p, m, nv, co, x, l, rfl, M, hv, fun cv H1 s1 hcv => ?_⟩
  obtain ⟨ca, cxs, rfl, hca⟩ := vl_word hcv
  have hgv1 := hgv.keep (fr_same s1)
  obtain ⟨ga, gxs, rfl, hga⟩ := fm_word hgv1
  have fz : ∀ {fs : List (Int × Dd)} {f : Fm} {l : Vl}, (∀ ws i us, f = .apply ws → l ≠ .cell (.part i us)) → (∀ s i n, f = .prim s i → l ≠ .num n) → needM fs f l = 0 := fun {fs f l} h1 h2 => by
    unfold needM
    split
    · exact absurd rfl (h1 _ _ _ rfl)
    · exact absurd rfl (h2 _ _ _ rfl)
    · rfl
  have no : ∀ {z w' : Str} {A B : Prop}, z ≠ w' → B → if decide (V.str z = V.str w') = true then A else B := fun h hb => by rw [wne h]; exact iteF hb
  have hpl : l.word = "part" → ∃ i us, l = .cell (.part i us) := fun h => by
    cases l with
    | num n => exact absurd h (show ("number" : Str) ≠ "part" by decide +kernel)
    | cell c =>
      cases c with
      | part i us => exact ⟨i, us, rfl⟩
      | lat b ws s => exact absurd h (show ("later" : Str) ≠ "part" by decide +kernel)
      | con i ws => exact absurd h (show ("con" : Str) ≠ "part" by decide +kernel)
      | on i => exact absurd h (show ("on" : Str) ≠ "part" by decide +kernel)
      | hole => exact absurd h (show ("hole" : Str) ≠ "part" by decide +kernel)
  have hnl : l.word = "number" → ∃ n, l = .num n := fun h => by
    cases l with
    | num n => exact ⟨n, rfl⟩
    | cell c =>
      cases c with
      | part i us => exact absurd h (show ("part" : Str) ≠ "number" by decide +kernel)
      | lat b ws s => exact absurd h (show ("later" : Str) ≠ "number" by decide +kernel)
      | con i ws => exact absurd h (show ("con" : Str) ≠ "number" by decide +kernel)
      | on i => exact absurd h (show ("on" : Str) ≠ "number" by decide +kernel)
      | hole => exact absurd h (show ("hole" : Str) ≠ "number" by decide +kernel)
  have hfa : ∀ z : Str, (z = "apply" ∨ z = "prim") → fm.word = z → (∃ ws, fm = .apply ws ∧ z = "apply") ∨ ∃ s i, fm = .prim s i ∧ z = "prim" := fun z hz h => by
    cases fm with
    | apply ws =>
      refine .inl ⟨ws, rfl, ?_⟩
      rw [← h]; rfl
    | prim s i =>
      refine .inr ⟨s, i, rfl, ?_⟩
      rw [← h]; rfl
    | «show» =>
      have h : ("show" : Str) = z := h
      rcases hz with e | e <;> (rw [e] at h; exact absurd h (by decide +kernel))
    | head r =>
      have h : ("head" : Str) = z := h
      rcases hz with e | e <;> (rw [e] at h; exact absurd h (by decide +kernel))
    | upd r =>
      have h : ("update" : Str) = z := h
      rcases hz with e | e <;> (rw [e] at h; exact absurd h (by decide +kernel))
    | seq b ws =>
      have h : ("seq" : Str) = z := h
      rcases hz with e | e <;> (rw [e] at h; exact absurd h (by decide +kernel))
    | right s o ws =>
      have h : ("right" : Str) = z := h
      rcases hz with e | e <;> (rw [e] at h; exact absurd h (by decide +kernel))
    | ch c r d ws =>
      have h : chW c = z := h
      rcases hz with e | e <;> (rw [e] at h; exact absurd h (by cases c <;> decide +kernel))
  refine ⟨fun σ' G => σ' = [some (.ref p.mo), some (.ref ga), some (.int x), some (.ref ca)] ∧ Same H1 G ∧ ∀ ws i us, fm = .apply ws → l = .cell (.part i us) → needM fs fm l = 0, ?_, ?_⟩
  · refine ⟨_, rfl, ga, _, 0, _, rfl, rfl, SqT.of hga, at0 _ _, rfl, _, rfl, ?_⟩
    show if decide (V.str fm.word = V.str "apply") = true then _ else _
    by_cases c1 : fm.word = "apply"
    · obtain ⟨ws, rfl, _⟩ : ∃ ws, fm = .apply ws ∧ True := by
        rcases hfa _ (.inl rfl) c1 with ⟨ws, h, _⟩ | ⟨s, i, _, h⟩
        · exact ⟨ws, h, trivial⟩
        · exact absurd h (by decide +kernel)
      rw [c1, wtt]
      refine iteT ?_
      refine ⟨_, rfl, ca, _, 0, _, rfl, rfl, SqT.of hca, at0 _ _, rfl, _, rfl, ?_⟩
      show if decide (V.str l.word = V.str "part") = true then _ else _
      by_cases c2 : l.word = "part"
      · obtain ⟨i, us, rfl⟩ := hpl c2
        rw [c2, wtt]
        refine iteT ?_
        obtain ⟨k, ar, bd, rfl, hfk⟩ := hpt ws i us rfl rfl
        refine ⟨_, rfl, _, rfl, _, rfl, p, m, nv, .ref ca, .ref ga, co, ar, fs, k, us, ws, bd, rfl, M.same s1, hF.keep (fr_same s1), hcv, hgv1, hfk, ?_⟩
        have hneed : needM fs (.apply ws) (.cell (.part (k : Int) us)) = if ((us.length + ws.length : Nat) : Int) < ar then 1 + ((us.length + ws.length : Nat) : Int) else 0 := by
          show (if ((us.length + ws.length : Nat) : Int) < (fs.getD ((k : Int)).toNat (0, .non)).1 then _ else _) = _
          rw [Int.toNat_natCast, List.getD_eq_getElem?_getD, hfk]
          rfl
        refine ⟨_, rfl, ?_⟩
        by_cases c3 : ((us.length + ws.length : Nat) : Int) < ar
        · rw [decide_eq_true c3]
          refine iteT ?_
          rw [hneed, if_pos c3] at q
          obtain ⟨ga2, gxs2, e2, hga2, x1, ys1, rfl, ⟨rfl, _⟩, y2, zs2, rfl, hy2, hn⟩ := hgv1
          cases e2
          obtain ⟨gu, rfl, hgu⟩ := ws_at hy2
          have hcz := sized_cell (K := K) (c := .part (k : Int) us) hcv
          refine ⟨_, rfl, .ref ca, _, _, rfl, hcz, fun H2 s2 => ⟨_, rfl, ga, _, 1, _, rfl, rfl, SqT.of (s2 _ _ hga2), at1 _ _ _, gu, _, rfl, .inr (SqT.of (s2 _ _ hgu)), _, _, rfl, rfl, ?_⟩⟩
          rw [Cl.size_eq, List.length_map]
          show Q (.int ((((Cl.part (k : Int) us).size : Nat) : Int) + ((ws.length : Nat) : Int))) H2
          rw [show (((Cl.part (k : Int) us).size : Nat) : Int) + ((ws.length : Nat) : Int) = 1 + ((us.length + ws.length : Nat) : Int) by show ((1 + us.length : Nat) : Int) + _ = _; omega]
          exact q _ (sameT s1 s2)
        · rw [decide_eq_false c3]
          refine iteF ?_
          exact ⟨rfl, same_id, fun ws' i' us' e1 e2 => by rw [hneed, if_neg c3]⟩
      · rw [wne c2]
        refine iteF ?_
        refine iteF ?_
        exact ⟨rfl, same_id, fun ws' i' us' e1 e2 => absurd (by rw [e2]; rfl) c2⟩
    · rw [wne c1]
      refine iteF ?_
      refine iteF ?_
      exact ⟨rfl, same_id, fun ws' i' us' e1 e2 => absurd (by rw [e1]; rfl) c1⟩
  · rintro _ G ⟨rfl, sG, hz⟩
    have hgaG := sG _ _ hga
    have hcaG := sG _ _ hca
    have s2 := sameT s1 sG
    refine ⟨_, rfl, ga, _, 0, _, rfl, rfl, SqT.of hgaG, at0 _ _, rfl, _, rfl, ?_⟩
    show if decide (V.str fm.word = V.str "prim") = true then _ else _
    have zero : (∀ s i n, fm = .prim s i → l ≠ .num n) → Q (.int 0) G := fun h => by
      have e := q G s2
      by_cases c : ∃ ws i us, fm = .apply ws ∧ l = .cell (.part i us)
      · obtain ⟨ws, i, us, h1, h2⟩ := c
        rw [hz ws i us h1 h2] at e
        exact e
      · rw [fz (fun ws i us h1 h2 => c ⟨ws, i, us, h1, h2⟩) h] at e
        exact e
    by_cases c1 : fm.word = "prim"
    · obtain ⟨sg, i0, rfl, _⟩ : ∃ s i, fm = .prim s i ∧ True := by
        rcases hfa _ (.inr rfl) c1 with ⟨ws, _, h⟩ | ⟨s, i, h, _⟩
        · exact absurd h (by decide +kernel)
        · exact ⟨s, i, h, trivial⟩
      rw [c1, wtt]
      refine iteT ?_
      refine ⟨_, rfl, ca, _, 0, _, rfl, rfl, SqT.of hcaG, at0 _ _, rfl, _, rfl, ?_⟩
      show if decide (V.str l.word = V.str "number") = true then _ else _
      by_cases c2 : l.word = "number"
      · obtain ⟨n0, rfl⟩ := hnl c2
        rw [c2, wtt]
        refine iteT ?_
        obtain ⟨ga2, gxs2, e2, hga2, x1, ys1, rfl, ⟨rfl, _⟩, y2, zs2, rfl, ⟨rfl, _⟩, hn⟩ := hgv1
        cases e2
        refine ⟨_, rfl, ga, _, 1, _, rfl, rfl, SqT.of (sG _ _ hga2), at1 _ _ _, aC, _, rfl, .inr (T.sCOMPARISONS _), rfl, flat_strs _, ?_⟩
        rw [in_strs]
        have hneed : needM fs (.prim sg i0) (.num n0) = if sg ∈ ineqs then 1 else 0 := rfl
        rw [hneed] at q
        refine ⟨_, rfl, ?_⟩
        by_cases c3 : sg ∈ ineqs
        · rw [decide_eq_true c3]
          rw [if_pos c3] at q
          exact iteT (q G s2)
        · rw [decide_eq_false c3]
          rw [if_neg c3] at q
          exact iteF (q G s2)
      · rw [wne c2]
        exact iteF (iteF (zero fun s i n _ h => c2 (by rw [h]; rfl)))
    · rw [wne c1]
      exact iteF (iteF (zero fun s i n h _ => c1 (by rw [h]; rfl)))
end
end Toy

set_option Elab.async false
set_option linter.all false
set_option maxRecDepth 100000
set_option maxHeartbeats 4000000
/-! Part M: a step of the machine. -/
namespace Toy
open PySem L2
open PyProof.Rows (envOfC)
theorem atL (xs : List V) (x : V) : atI (xs ++ [x]) (-1) = some x := by
  have e : ixN (xs ++ [x]).length (-1) = some xs.length := by
    unfold ixN
    rw [if_neg (by decide), if_pos (by rw [List.length_append]; show -(((xs.length + 1 : Nat)) : Int) ≤ -1; omega)]
    rw [List.length_append]
    congr 1
    show (-1 + ((xs.length + 1 : Nat) : Int)).toNat = _
    omega
  unfold atI
  rw [e]
  show (xs ++ [x])[xs.length]? = some x
  rw [List.getElem?_append_right (Nat.le_refl _), Nat.sub_self]
  rfl
def stops : List Str := ["end", "fault", "loop", "full", "stuck"]
theorem nw_word {K : PySem.W.Frag} {H : Hp} {n : Nw} {v : V} (h : NwAt K H n v) : ∃ a xs, v = .ref a ∧ SqT K H a (.str n.word :: xs) := by
  cases n with
  | stuck => obtain ⟨a, rfl, ha⟩ := h; exact ⟨a, _, rfl, ha⟩
  | enter w => obtain ⟨a, xs, rfl, ha, x, ys, rfl, ⟨rfl, _⟩, hy⟩ := h; exact ⟨a, _, rfl, SqT.of ha⟩
  | eval b ws => obtain ⟨a, xs, rfl, ha, x, ys, rfl, ⟨rfl, _⟩, hy⟩ := h; exact ⟨a, _, rfl, SqT.of ha⟩
  | val w => obtain ⟨a, xs, rfl, ha, x, ys, rfl, ⟨rfl, _⟩, hy⟩ := h; exact ⟨a, _, rfl, SqT.of ha⟩
  | fin => obtain ⟨a, xs, rfl, ha, x, ys, rfl, ⟨rfl, _⟩, hy⟩ := h; exact ⟨a, _, rfl, SqT.of ha⟩
  | fault s => obtain ⟨a, xs, rfl, ha, x, ys, rfl, ⟨rfl, _⟩, hy⟩ := h; exact ⟨a, _, rfl, SqT.of ha⟩
  | loop => obtain ⟨a, xs, rfl, ha, x, ys, rfl, ⟨rfl, _⟩, hy⟩ := h; exact ⟨a, _, rfl, SqT.of ha⟩
  | full => obtain ⟨a, xs, rfl, ha, x, ys, rfl, ⟨rfl, _⟩, hy⟩ := h; exact ⟨a, _, rfl, SqT.of ha⟩
theorem stops_run (n : Nw) : decide (n.word ∈ stops) = !n.run := by
  cases n
  · show decide (("enter" : Str) ∈ stops) = false; decide +kernel
  · show decide (("eval" : Str) ∈ stops) = false; decide +kernel
  · show decide (("value" : Str) ∈ stops) = false; decide +kernel
  · show decide (("end" : Str) ∈ stops) = true; decide +kernel
  · show decide (("fault" : Str) ∈ stops) = true; decide +kernel
  · show decide (("loop" : Str) ∈ stops) = true; decide +kernel
  · show decide (("stuck" : Str) ∈ stops) = true; decide +kernel
  · show decide (("full" : Str) ∈ stops) = true; decide +kernel
/-- the size that is needed -/
def NeedN (fs : List (Int × Dd)) (n : Nw) (m : Mc) (z : Int) : Prop := match n with
  | .eval b _ => z = needE b
  | .val w => ∃ stk f l, m.stk = stk ++ [f] ∧ VlS w m l ∧ z = needM fs f l
  | _ => z = 0
theorem VlS.det {w : Int} {m m' : Mc} {l l' : Vl} (h : VlS w m l) (h' : VlS w m' l') (e : m.cs = m'.cs) : l = l' := by
  cases h with
  | @odd n _ =>
    generalize hw : 2 * n + 1 = w at h'
    cases h' with
    | @odd n' _ => rw [show n = n' by omega]
    | @even n' _ c hc => omega
  | @even n _ c hc =>
    generalize hw : 2 * (n : Int) = w at h'
    cases h' with
    | @odd n' _ => omega
    | @even n' _ c' hc' =>
      have : n = n' := by omega
      subst this
      rw [e, hc'] at hc
      cases hc
      rfl
theorem mt_part {fs : List (Int × Dd)} {f : Fm} {w : Int} {m m0 m' : Mc} {n : Nw} {l : Vl} (h : MtS fs f w m n m') (hl : VlS w m0 l) (e : m0.cs = m.cs) : ∀ ws i us, f = .apply ws → l = .cell (.part i us) → ∃ (k : Nat) (ar : Int) (b : Dd), i = (k : Int) ∧ fs[k]? = some (ar, b) := by
  rintro ws i us rfl rfl
  cases h with
  | part hv hf _ _ => cases hl.det hv e; exact ⟨_, _, _, rfl, hf⟩
  | full hv hf _ _ => cases hl.det hv e; exact ⟨_, _, _, rfl, hf⟩
  | over hv hf _ _ => cases hl.det hv e; exact ⟨_, _, _, rfl, hf⟩
  | applyNo hv hne => cases hl.det hv e; exact absurd rfl hne
structure TxtGo (P : Program) (w : World) (K : PySem.W.Frag) (mg : Str → Option Value) (base : Heap) (CM CH aE aM aT : Addr) (esE esM : Array DictEntry) (nE nM : Nat) (sE sM : Addr → Option Sp) : Prop extends TxtMk K CM where
  kE : KDict K w aE esE nE
  gEVALUATIONS : ∃ u, mg "EVALUATIONS" = some u ∧ RelV (.ref aE) u
  evIn : ∀ z : Wd, ∃ f sp, PySem.W.nsIn K aE z.str = some (some (.ref f)) ∧ sE f = some sp ∧ ∀ vs H Q E, spEv K CM CH z vs H Q E → sp vs H Q E
  heldE : ∀ f sp, sE f = some sp → Held P w K mg base 4 f sp
  kM : KDict K w aM esM nM
  gMEETINGS : ∃ u, mg "MEETINGS" = some u ∧ RelV (.ref aM) u
  mtIn : ∀ g : Fm, ∃ (f : Addr) (kind : Fm → Prop), PySem.W.nsIn K aM g.word = some (some (.ref f)) ∧ sM f = some (spMt K CM CH kind) ∧ kind g
  heldM : ∀ f sp, sM f = some sp → Held P w K mg base 4 f sp
section
variable {P : Program} {w : World} {K : PySem.W.Frag} {mg : Str → Option Value} {base : Heap} {CM CH aE aM aT : Addr} {esE esM : Array DictEntry} {nE nM : Nat} {sE sM : Addr → Option Sp}
abbrev sEvaluate : Stmt := topS 18
theorem scEvaluate : FnScope ["machine", "body", "words", "begin"] ["machine", "body", "words"] (defScope sEvaluate) := ⟨rfl, rfl, rfl, by decide +kernel, rfl, by decide +kernel, by decide +kernel⟩
def spEvaluate (K : PySem.W.Frag) (CM CH : Addr) : Sp := fun vs H Q E => ∃ z : Wd, spEv K CM CH z vs H Q E
theorem c_evaluate {f : Addr} {fd : FuncData} (T : TxtGo P w K mg base CM CH aE aM aT esE esM nE nM sE sM) (F : Fun K "evaluate" "evaluate" sEvaluate f fd) (b : Binds K fd ["machine", "body", "words"] []) (hm : mg "evaluate" = some (.ref f)) : C8.Cal P w K mg base 5 "evaluate" (spEvaluate K CM CH) [] := by
  refine cal_of F hm b scEvaluate (fun vs H Q E h => ?_) (fun cdv A outer s H vs Q E hr h => ?_)
  · obtain ⟨z, p, m, m', nv, bv, wv, co, r, ws, n, rfl, _⟩ := h
    rfl
  obtain ⟨z, p, m, m', nv, bv, wv, co, r, ws, n, rfl, M, hat, hws, hev, hsm, q⟩ := h
  refine ⟨_, (pss_cons (ps_set (i := 3) scEvaluate.nd rfl (Or.inl rfl) (pe_ix (ix_kd T.kE) (C8.pe_gc rfl T.gEVALUATIONS) (pe_ix ix_tup (pv 1) pe_int (fun _ _ => rfl)) (fun _ _ => rfl)))
    (pss_one (ps_ret (pe_callA (i := 3) T.heldE (hr.mono (by decide)) rfl (Or.inl rfl) (pa_cons (pv 0) (pa_cons (pv 1) (pa_cons (pv 2) pa_nil))))))), ?_⟩
  obtain ⟨a, ys, rfl, ha, hs⟩ := head_at hat
  obtain ⟨fz, sp, hns, hsE, himp⟩ := T.evIn z
  refine ⟨_, rfl, a, _, 0, _, rfl, rfl, SqT.of ha, at0 _ _, z.str, .ref fz, .ref fz, rfl, rfl, hns, rfl, ?_⟩
  exact ⟨fz, sp, rfl, hsE, _, rfl, _, rfl, _, rfl, himp _ _ _ _ ⟨p, m, m', nv, .ref a, wv, co, r, ws, n, rfl, M, hat, hws, hev, hsm, q⟩⟩
abbrev sMeet : Stmt := topS 40
theorem scMeet : FnScope ["machine", "frame", "word", "go_on"] ["machine", "frame", "word"] (defScope sMeet) := ⟨rfl, rfl, rfl, by decide +kernel, rfl, by decide +kernel, by decide +kernel⟩
def spMeet (K : PySem.W.Frag) (CM CH : Addr) : Sp := spMt K CM CH fun _ => True
theorem c_meet {f : Addr} {fd : FuncData} (T : TxtGo P w K mg base CM CH aE aM aT esE esM nE nM sE sM) (F : Fun K "meet" "meet" sMeet f fd) (b : Binds K fd ["machine", "frame", "word"] []) (hm : mg "meet" = some (.ref f)) : C8.Cal P w K mg base 5 "meet" (spMeet K CM CH) [] := by
  refine cal_of F hm b scMeet (fun vs H Q E h => ?_) (fun cdv A outer s H vs Q E hr h => ?_)
  · obtain ⟨p, m, m', nv, gv, co, x, fs, f, n, rfl, _⟩ := h
    rfl
  obtain ⟨p, m, m', nv, gv, co, x, fs, fm, n, rfl, _, M, hF, hgv, hmt, hsm, q⟩ := h
  refine ⟨_, (pss_cons (ps_set (i := 3) scMeet.nd rfl (Or.inl rfl) (pe_ix (ix_kd T.kM) (C8.pe_gc rfl T.gMEETINGS) (pe_ix ix_tup (pv 1) pe_int (fun _ _ => rfl)) (fun _ _ => rfl)))
    (pss_one (ps_ret (pe_callA (i := 3) T.heldM (hr.mono (by decide)) rfl (Or.inl rfl) (pa_cons (pv 0) (pa_cons (pv 1) (pa_cons (pv 2) pa_nil))))))), ?_⟩
  obtain ⟨ga, gxs, rfl, hga⟩ := fm_word hgv
  obtain ⟨fz, kind, hns, hsM, hk⟩ := T.mtIn fm
  refine ⟨_, rfl, ga, _, 0, _, rfl, rfl, SqT.of hga, at0 _ _, fm.word, .ref fz, .ref fz, rfl, rfl, hns, rfl, ?_⟩
  exact ⟨fz, _, rfl, hsM, _, rfl, _, rfl, _, rfl, p, m, m', nv, .ref ga, co, x, fs, fm, n, rfl, hk, M, hF, hgv, hmt, hsm, q⟩
abbrev sSizeN : Stmt := topS 58
theorem scSizeN : FnScope ["machine"] ["machine"] (defScope sSizeN) := ⟨rfl, rfl, rfl, by decide +kernel, rfl, by decide +kernel, by decide +kernel⟩
def spSizeN (K : PySem.W.Frag) (CM CH : Addr) : Sp := fun vs H Q _ => ∃ (p : Pl) (m m' : Mc) (nv : V) (co : Int) (fs : List (Int × Dd)) (n n' : Nw), vs = [.ref p.mo] ∧ MkAt CM CH H p m nv co ∧ NwAt K H n nv ∧ FsAt H fs p.fv ∧ StS fs n m n' m' ∧ ∀ (z : Int) (H' : Hp), NeedN fs n m z → Same H H' → Q (.int z) H'
theorem c_sizen {f : Addr} {fd : FuncData} (TM : TxtMk K CM) (csize_to_evaluate : C8.Cal P w K mg base 3 "size_to_evaluate" spSizeE []) (csize_to_meet : C8.Cal P w K mg base 3 "size_to_meet" (spSizeMt CM CH) []) (F : Fun K "size_needed" "size_needed" sSizeN f fd) (b : Binds K fd ["machine"] []) (hm : mg "size_needed" = some (.ref f)) : C8.Cal P w K mg base 4 "size_needed" (spSizeN K CM CH) [] := by
  refine cal_of F hm b scSizeN (fun vs H Q E h => ?_) (fun cdv A outer s H vs Q E hr h => ?_)
  · obtain ⟨p, m, m', nv, co, fs, n, n', rfl, _⟩ := h
    rfl
  obtain ⟨p, m, m', nv, co, fs, n, n', rfl, M, hn, hF, hst, q⟩ := h
  refine ⟨_, (pss_cons (ps_if (pt_cmpR op_eq (pe_ix ix_tup (pe_fld (pv 0) rfl) pe_int (fun _ _ => rfl)) pe_str (nomark _))
      (pss_one (ps_ret (C8.pe_c csize_to_evaluate hr (by decide) rfl (pa_cons (pe_ix ix_tup (pe_fld (pv 0) rfl) pe_int (fun _ _ => rfl)) pa_nil))))
      pss_nil)
    (pss_cons (ps_if (pt_cmpR op_eq (pe_ix ix_tup (pe_fld (pv 0) rfl) pe_int (fun _ _ => rfl)) pe_str (nomark _))
      (pss_one (ps_ret (C8.pe_c csize_to_meet hr (by decide) rfl (pa_cons (pv 0) (pa_cons (pe_ix ix_list (pe_fld (pv 0) rfl) (pe_un un_neg pe_int) (fun _ _ => rfl)) (pa_cons (pe_ix ix_tup (pe_fld (pv 0) rfl) pe_int (fun _ _ => rfl)) pa_nil))))))
      pss_nil)
    (pss_one (ps_ret pe_int)))), ?_⟩
  obtain ⟨dx, ho⟩ := M.o
  cases hst with
  | @enter w0 _ _ _ h1 =>
    obtain ⟨a, xs, rfl, ha, x, ys, rfl, ⟨rfl, _⟩, y, zs, rfl, hy, hz⟩ := hn
    refine ⟨_, rfl, p.mo, CM, dx, _, _, rfl, ho, TM.cl, TM.n_now, fM_now .., a, _, 0, _, rfl, rfl, SqT.of ha, at0 _ _, rfl, _, rfl, ?_⟩
    refine iteF ?_
    refine ⟨_, rfl, p.mo, CM, dx, _, _, rfl, ho, TM.cl, TM.n_now, fM_now .., a, _, 0, _, rfl, rfl, SqT.of ha, at0 _ _, rfl, _, rfl, ?_⟩
    refine iteF ?_
    exact q 0 H rfl same_id
  | @eval z r ws _ _ _ h1 =>
    obtain ⟨a, xs, rfl, ha, x, ys, rfl, ⟨rfl, _⟩, y, zs, rfl, hy, hz⟩ := hn
    refine ⟨_, rfl, p.mo, CM, dx, _, _, rfl, ho, TM.cl, TM.n_now, fM_now .., a, _, 0, _, rfl, rfl, SqT.of ha, at0 _ _, rfl, _, rfl, ?_⟩
    refine iteT ?_
    exact ⟨_, rfl, p.mo, CM, dx, _, _, rfl, ho, TM.cl, TM.n_now, fM_now .., a, _, 1, _, rfl, rfl, SqT.of ha, at1 _ _ _, y, z, r, ws, m, m', n', rfl, hy, h1, fun H' s' => q _ H' rfl s'⟩
  | @val w0 f0 stk _ _ _ l0 hs0 hl0 h1 =>
    obtain ⟨a, xs, rfl, ha, x, ys, rfl, ⟨rfl, _⟩, y, zs, rfl, hy, hz⟩ := hn
    cases (show y = .int w0 from hy)
    refine ⟨_, rfl, p.mo, CM, dx, _, _, rfl, ho, TM.cl, TM.n_now, fM_now .., a, _, 0, _, rfl, rfl, SqT.of ha, at0 _ _, rfl, _, rfl, ?_⟩
    refine iteF ?_
    refine ⟨_, rfl, p.mo, CM, dx, _, _, rfl, ho, TM.cl, TM.n_now, fM_now .., a, _, 0, _, rfl, rfl, SqT.of ha, at0 _ _, rfl, _, rfl, ?_⟩
    refine iteT ?_
    obtain ⟨us, u, hus, hu, _⟩ := M.pop hs0
    refine ⟨_, rfl, _, rfl, p.mo, CM, dx, _, .ref p.sa, rfl, ho, TM.cl, TM.n_stack, fM_stack .., _, rfl, p.sa, _, -1, _, rfl, rfl, SqL.of hus, atL _ _, _, rfl, p.mo, CM, dx, _, _, rfl, ho, TM.cl, TM.n_now, fM_now .., a, _, 1, _, rfl, rfl, SqT.of ha, at1 _ _ _, p, m, _, u, co, w0, fs, f0, l0, rfl, M, hF, hu, hl0, mt_part h1 hl0 rfl, fun H' s' => q _ H' ⟨stk, f0, l0, hs0, hl0, rfl⟩ s'⟩
abbrev sStopped : Stmt := inClass (topS 57) 1
theorem scStopped : FnScope ["self"] ["self"] (defScope sStopped) := ⟨rfl, rfl, rfl, by decide +kernel, rfl, by decide +kernel, by decide +kernel⟩
structure TxtSp (K : PySem.W.Frag) (mg : Str → Option Value) (C aT : Addr) : Prop extends TxtMk K C where
  gSTOPPED : ∃ u, mg "STOPPED" = some u ∧ RelV (.ref aT) u
  sSTOPPED : ∀ H, SqT K H aT (stops.map V.str)
def spStopped (K : PySem.W.Frag) (CM CH : Addr) : Sp := fun vs H Q _ => ∃ (p : Pl) (m : Mc) (nv : V) (co : Int) (n : Nw), vs = [.ref p.mo] ∧ MkAt CM CH H p m nv co ∧ NwAt K H n nv ∧ Q (.bl (!n.run)) H
theorem c_stopped {f : Addr} {fd : FuncData} (T : TxtSp K mg CM aT) (F : Fun K "stopped" "Machine.stopped" sStopped f fd) : FnOk P w K mg base CX0 1 f fd ["self"] (spStopped K CM CH) := by
  refine F.ok scStopped (fun vs H Q E h => ?_) (fun cdv A outer s H vs Q E hr h => ?_)
  · obtain ⟨p, m, nv, co, n, rfl, _⟩ := h
    rfl
  obtain ⟨p, m, nv, co, n, rfl, M, hn, q⟩ := h
  refine ⟨_, (pss_one (ps_ret (pe_cmpR op_in_seq (pe_ix ix_tup (pe_fld (pv 0) rfl) pe_int (fun _ _ => rfl)) (C8.pe_gc rfl T.gSTOPPED) rfl))), ?_⟩
  obtain ⟨dx, ho⟩ := M.o
  obtain ⟨a, xs, rfl, ha⟩ := nw_word hn
  refine ⟨_, rfl, p.mo, CM, dx, _, _, rfl, ho, T.cl, T.n_now, fM_now .., a, _, 0, _, rfl, rfl, ha, at0 _ _, aT, _, rfl, .inr (T.sSTOPPED _), rfl, flat_strs _, ?_⟩
  rw [in_strs, stops_run]
  exact q
abbrev sHasRoom : Stmt := inClass (topS 57) 4
theorem scHasRoom : FnScope ["self", "size"] ["self", "size"] (defScope sHasRoom) := ⟨rfl, rfl, rfl, by decide +kernel, rfl, by decide +kernel, by decide +kernel⟩
def spHasRoom (CM CH : Addr) : Sp := fun vs H Q _ => ∃ (p : Pl) (m : Mc) (nv : V) (co z : Int), vs = [.ref p.mo, .int z] ∧ MkAt CM CH H p m nv co ∧ used m.cs + z ≤ p.room ∧ Q (.bl true) H
theorem c_hasroom {f : Addr} {fd : FuncData} (TM : TxtMk K CM) (cfits : C8.Met P w K mg base 1 CH "fits" (spFits CH) []) (ccollect : C8.Met P w K mg base 1 CM "collect" (fun _ _ _ _ => False) []) (me : Meth K CM "has_room" f) (F : Fun K "has_room" "Machine.has_room" sHasRoom f fd) (b : Binds K fd ["self", "size"] []) : C8.Met P w K mg base 2 CM "has_room" (spHasRoom CM CH) [] := by
  refine met_of TM.cl me F b scHasRoom (fun vs H Q E h => ?_) (fun cdv A outer s H vs Q E hr h => ?_)
  · obtain ⟨p, m, nv, co, z, rfl, _⟩ := h
    rfl
  obtain ⟨p, m, nv, co, z, rfl, M, hz, q⟩ := h
  refine ⟨_, (pss_cons (ps_if (PW.pt (pw_or (pt_cmpR op_eq (pv 1) pe_int (nomark _)) (pw_or1 (pt_val (C8.pe_mt cfits hr (by decide) (pe_fld (pv 0) rfl) (pa_cons (pv 1) pa_nil))))))
      (pss_one (ps_ret pe_bl))
      pss_nil)
    (pss_cons (ps_expr (C8.pe_mt0 ccollect hr (by decide) (pv 0)))
    (pss_one (ps_ret (C8.pe_mt cfits hr (by decide) (pe_fld (pv 0) rfl) (pa_cons (pv 1) pa_nil)))))), ?_⟩
  obtain ⟨dx, ho⟩ := M.o
  obtain ⟨⟨dy, hho⟩, _⟩ := id M.h
  refine ⟨_, rfl, rfl, _, rfl, ?_⟩
  show if decide (V.int z = V.int 0) = true then _ else _
  by_cases c : z = 0
  · rw [ieq c]
    exact iteT (iteT q)
  · rw [ine c]
    refine iteF ?_
    refine ⟨_, rfl, p.mo, CM, dx, _, .ref p.ho, rfl, ho, TM.cl, TM.n_heap, fM_heap .., p.ho, dy, _, rfl, hho, fldH_no_fits .., _, rfl, p, z, m.cs, rfl, M.h, ?_⟩
    rw [decide_eq_true hz]
    refine ⟨_, rfl, ?_⟩
    exact iteT q
abbrev sStep : Stmt := inClass (topS 57) 2
theorem scStep : FnScope ["self"] ["self"] (defScope sStep) := ⟨rfl, rfl, rfl, by decide +kernel, rfl, by decide +kernel, by decide +kernel⟩
structure TxtStep (P : Program) (w : World) (K : PySem.W.Frag) (mg : Str → Option Value) (base : Heap) (CM CH pS fS : Addr) (fdS : FuncData) : Prop extends TxtMk K CM where
  hpStop : PropOf K CM "stopped" pS fS
  fStop : FnOk P w K mg base CX0 1 fS fdS ["self"] (spStopped K CM CH)
  bStop : Binds K fdS ["self"] []
variable {pS fS : Addr} {fdS : FuncData}
def spStep (K : PySem.W.Frag) (CM CH : Addr) : Sp := fun vs H Q _ => ∃ (p : Pl) (m m' : Mc) (nv : V) (co : Int) (fs : List (Int × Dd)) (n n' : Nw), vs = [.ref p.mo] ∧ MkAt CM CH H p m nv co ∧ NwAt K H n nv ∧ FsAt H fs p.fv ∧ m.small ∧ n.run = true ∧ StS fs n m n' m' ∧ (∀ z, NeedN fs n m z → used m.cs + z ≤ p.room) ∧
  ∀ (nv' : V) (H' : Hp), KeepM p H H' → MkAt CM CH H' p m' nv' co → NwAt K H' n' nv' → Q .non H'
theorem NwAt.keep {K : PySem.W.Frag} {H H' : Hp} {n : Nw} {v : V} (h : NwAt K H n v) (s : Same H H') : NwAt K H' n v := by
  cases n with
  | stuck => obtain ⟨a, rfl, ha⟩ := h; exact ⟨a, rfl, sqT_same ha s⟩
  | _ => exact Dd.At.keep (fr_same s) h
theorem c_step {f : Addr} {fd : FuncData} (T : TxtStep P w K mg base CM CH pS fS fdS) (csize_needed : C8.Cal P w K mg base 4 "size_needed" (spSizeN K CM CH) []) (chas_room : C8.Met P w K mg base 2 CM "has_room" (spHasRoom CM CH) []) (center : C8.Cal P w K mg base 3 "enter" (spEnter K CM CH) []) (cevaluate : C8.Cal P w K mg base 5 "evaluate" (spEvaluate K CM CH) []) (cmeet : C8.Cal P w K mg base 5 "meet" (spMeet K CM CH) []) (me : Meth K CM "step" f) (F : Fun K "step" "Machine.step" sStep f fd) (b : Binds K fd ["self"] []) : C8.Met P w K mg base 6 CM "step" (spStep K CM CH) [] := by
  refine met_of T.cl me F b scStep (fun vs H Q E h => ?_) (fun cdv A outer s H vs Q E hr h => ?_)
  · obtain ⟨p, m, m', nv, co, fs, n, n', rfl, _⟩ := h
    rfl
  obtain ⟨p, m, m', nv, co, fs, n, n', rfl, M, hn, hF, hsm, hrun, hst, hfit, q⟩ := h
  refine ⟨_, (pss_cons (ps_if (pt_val (pe_prop (E := C8.E0) (pv 0) T.cl T.hpStop T.fStop (hr.mono (by decide)) T.bStop .nil C8.pass0 rfl))
      (pss_one ps_retN)
      pss_nil)
    (pss_one (ps_if (pt_not (pt_val (C8.pe_mt chas_room hr (by decide) (pv 0) (pa_cons (C8.pe_c csize_needed hr (by decide) rfl (pa_cons (pv 0) pa_nil)) pa_nil))))
      (pss_one (ps_fld (pv 0) (pe_tup (pa_cons pe_str pa_nil)) rfl))
      (pss_one (ps_if (pt_cmpR op_eq (pe_ix ix_tup (pe_fld (pv 0) rfl) pe_int (fun _ _ => rfl)) pe_str (nomark _))
      (pss_one (ps_fld (pv 0) (C8.pe_c center hr (by decide) rfl (pa_cons (pv 0) (pa_cons (pe_ix ix_tup (pe_fld (pv 0) rfl) pe_int (fun _ _ => rfl)) pa_nil))) rfl))
      (pss_one (ps_if (pt_cmpR op_eq (pe_ix ix_tup (pe_fld (pv 0) rfl) pe_int (fun _ _ => rfl)) pe_str (nomark _))
      (pss_one (ps_fld (pv 0) (C8.pe_c cevaluate hr (by decide) rfl (pa_cons (pv 0) (pa_cons (pe_ix ix_tup (pe_fld (pv 0) rfl) pe_int (fun _ _ => rfl)) (pa_cons (pe_ix ix_tup (pe_fld (pv 0) rfl) pe_int (fun _ _ => rfl)) pa_nil)))) rfl))
      (pss_one (ps_fld (pv 0) (C8.pe_c cmeet hr (by decide) rfl (pa_cons (pv 0) (pa_cons (pe_bm0 PySem.F.plainAttrs_list PySem.F.slot_list_pop PySem.F.type_list_pop mt_pop (pe_fld (pv 0) rfl)) (pa_cons (pe_ix ix_tup (pe_fld (pv 0) rfl) pe_int (fun _ _ => rfl)) pa_nil)))) rfl))))))))), ?_⟩
  obtain ⟨dx0, ho0⟩ := M.o
  refine ⟨_, rfl, p.mo, dx0, _, rfl, ho0, p, m, nv, co, n, rfl, M, hn, ?_⟩
  rw [hrun]
  refine ⟨_, rfl, ?_⟩
  refine iteF ?_
  refine ⟨_, rfl, p.mo, dx0, _, rfl, ho0, fM_no_has_room .., _, rfl, p, m, m', nv, co, fs, n, n', rfl, M, hn, hF, hst, fun z H1 hz s1 => ?_⟩
  have M1 := M.same s1
  have hn1 := hn.keep s1
  have hF1 := hF.keep (fr_same s1)
  refine ⟨p, m, nv, co, z, rfl, M1, hfit z hz, ?_⟩
  refine ⟨_, rfl, ?_⟩
  refine iteF ?_
  obtain ⟨dx, ho⟩ := M1.o
  -- what it does is put
  have put : ∀ (v' : V) (H' : Hp), KeepM p H1 H' → MkAt CM CH H' p m' nv co → NwAt K H' n' v' → ∃ a C dx fs, V.ref p.mo = .ref a ∧ H' a = some (.ins C dx fs) ∧ Cls K C ∧ NoAttr K C "now" ∧ fs.length < 1000 ∧ Q .non (upd H' a (.ins C dx (putF "now" v' fs))) := fun v' H' k' M' hv' => by
    obtain ⟨dx', ho'⟩ := M'.o
    refine ⟨p.mo, CM, dx', _, rfl, ho', T.cl, T.n_now, fM_len .., ?_⟩
    rw [fM_put_now]
    obtain ⟨M2, k2, f2⟩ := M'.own ho' m'.ser v' co
    refine q v' _ (((KeepM.same s1).trans k').trans k2) M2 ?_
    cases n' with
    | stuck =>
      obtain ⟨a, rfl, ha⟩ := hv'
      refine ⟨a, rfl, ?_⟩
      rcases ha with (h | ⟨o, h⟩) | h
      · exact .inl (.inl (f2.1 _ _ h))
      · exact .inl (.inr ⟨o, by rw [upd_ne (fun e => by rw [e, ho'] at h; cases h)]; exact h⟩)
      · exact .inr h
    | _ => exact Dd.At.keep f2 hv'
  cases hst with
  | @enter w0 _ _ _ h1 =>
    obtain ⟨a, xs, rfl, ha, x, ys, rfl, ⟨rfl, _⟩, y, zs, rfl, hy, hz⟩ := hn1
    cases (show y = .int w0 from hy)
    refine ⟨_, rfl, p.mo, CM, dx, _, _, rfl, ho, T.cl, T.n_now, fM_now .., a, _, 0, _, rfl, rfl, SqT.of ha, at0 _ _, rfl, _, rfl, ?_⟩
    refine iteT ?_
    exact ⟨_, rfl, _, rfl, p.mo, CM, dx, _, _, rfl, ho, T.cl, T.n_now, fM_now .., a, _, 1, _, rfl, rfl, SqT.of ha, at1 _ _ _, p, m, m', .ref a, co, w0, n', rfl, M1, h1, hsm, fun v' H' k' M' hv' => ⟨_, rfl, put v' H' k' M' hv'⟩⟩
  | @eval z r ws _ _ _ h1 =>
    obtain ⟨a, xs, rfl, ha, x, ys, rfl, ⟨rfl, _⟩, y, zs, rfl, hy, y2, zs2, rfl, hy2, hz⟩ := hn1
    refine ⟨_, rfl, p.mo, CM, dx, _, _, rfl, ho, T.cl, T.n_now, fM_now .., a, _, 0, _, rfl, rfl, SqT.of ha, at0 _ _, rfl, _, rfl, ?_⟩
    refine iteF ?_
    refine ⟨_, rfl, p.mo, CM, dx, _, _, rfl, ho, T.cl, T.n_now, fM_now .., a, _, 0, _, rfl, rfl, SqT.of ha, at0 _ _, rfl, _, rfl, ?_⟩
    refine iteT ?_
    exact ⟨_, rfl, _, rfl, p.mo, CM, dx, _, _, rfl, ho, T.cl, T.n_now, fM_now .., a, _, 1, _, rfl, rfl, SqT.of ha, at1 _ _ _, _, rfl, p.mo, CM, dx, _, _, rfl, ho, T.cl, T.n_now, fM_now .., a, _, 2, _, rfl, rfl, SqT.of ha, at2 _ _ _ _, z, p, m, m', .ref a, y, y2, co, r, ws, n', rfl, M1, hy, hy2, h1, hsm, fun v' H' k' M' hv' => ⟨_, rfl, put v' H' k' M' hv'⟩⟩
  | @val w0 f0 stk _ _ _ l0 hs0 hl0 h1 =>
    obtain ⟨a, xs, rfl, ha, x, ys, rfl, ⟨rfl, _⟩, y, zs, rfl, hy, hz⟩ := hn1
    cases (show y = .int w0 from hy)
    refine ⟨_, rfl, p.mo, CM, dx, _, _, rfl, ho, T.cl, T.n_now, fM_now .., a, _, 0, _, rfl, rfl, SqT.of ha, at0 _ _, rfl, _, rfl, ?_⟩
    refine iteF ?_
    refine ⟨_, rfl, p.mo, CM, dx, _, _, rfl, ho, T.cl, T.n_now, fM_now .., a, _, 0, _, rfl, rfl, SqT.of ha, at0 _ _, rfl, _, rfl, ?_⟩
    refine iteF ?_
    obtain ⟨us, u, hus, hu, M2, k2, f2⟩ := M1.pop hs0
    obtain ⟨dx2, ho2⟩ := M2.o
    have hsm2 : Mc.small { m with stk := stk } := ⟨hsm.c, by have := hsm.s; rw [hs0, List.length_append] at this; show stk.length ≤ 90000; omega, hsm.e, hsm.n⟩
    refine ⟨_, rfl, _, rfl, p.mo, CM, dx, _, .ref p.sa, rfl, ho, T.cl, T.n_stack, fM_stack .., .inl ⟨rfl, _, SqL.of hus⟩, p.sa, _, u, rfl, rfl, hus, by rw [List.length_append]; exact List.getElem?_concat_length, ?_⟩
    rw [List.dropLast_concat]
    exact ⟨_, rfl, p.mo, CM, dx2, _, _, rfl, ho2, T.cl, T.n_now, fM_now .., a, _, 1, _, rfl, rfl, SqT.of (f2.1 _ _ ha), at1 _ _ _, p, _, m', .ref a, u, co, w0, fs, f0, n', rfl, trivial, M2, hF1.keep f2, hu.keep f2, h1, hsm2, fun v' H' k' M' hv' => ⟨_, rfl, put v' H' (k2.trans k') M' hv'⟩⟩
end
end Toy

set_option Elab.async false
set_option linter.all false
set_option maxRecDepth 100000
set_option maxHeartbeats 4000000
/-! Part N: a machine is made, and run. -/
namespace Toy
open PySem L2
open PyProof.Rows (envOfC)
def KeepO (o : Addr) (H H' : Hp) : Prop := ∀ b u, b ≠ o → H b = some u → H' b = some u
/-- the cells of the functions -/
def startC : Nat → List (Int × Dd) → List Cl
  | _, [] => []
  | k, q :: fs => (if q.1 = 0 then .lat q.2 [] (k : Int) else .part (k : Int) []) :: startC (k + 1) fs
theorem startC_len : ∀ (fs : List (Int × Dd)) (k : Nat), (startC k fs).length = fs.length
  | [], _ => rfl
  | q :: fs, k => by
    show (startC (k + 1) fs).length + 1 = fs.length + 1
    rw [startC_len fs]
theorem startC_snoc : ∀ (l : List (Int × Dd)) (k : Nat) (q : Int × Dd), startC k (l ++ [q]) = startC k l ++ [if q.1 = 0 then .lat q.2 [] ((k + l.length : Nat) : Int) else .part ((k + l.length : Nat) : Int) []]
  | [], k, q => rfl
  | p :: l, k, q => by
    show _ :: startC (k + 1) (l ++ [q]) = _ :: (startC (k + 1) l ++ _)
    rw [startC_snoc l (k + 1) q, show k + 1 + l.length = k + (p :: l).length by rw [List.length_cons]; omega]
def startM (fs : List (Int × Dd)) : Mc := ⟨startC 0 fs, [.show], [], [], (fs.length : Int)⟩
structure TxtMi (K : PySem.W.Frag) (mg : Str → Option Value) (C : Addr) : Prop extends TxtMk K C where
  zlen : mg "len" = none
  zenumerate : mg "enumerate" = none
section
variable {P : Program} {w : World} {K : PySem.W.Frag} {mg : Str → Option Value} {base : Heap} {CM CH pS fS : Addr} {fdS : FuncData}
abbrev sHInit : Stmt := inClass (topS 14) 0
theorem scHInit : FnScope ["self", "room"] ["self", "room"] (defScope sHInit) := ⟨rfl, rfl, rfl, by decide +kernel, rfl, by decide +kernel, by decide +kernel⟩
def spHInit (C : Addr) : Sp := fun vs H Q _ => ∃ (o dx : Addr) (room : Int), vs = [.ref o, .int room] ∧ H o = some (.ins C dx []) ∧ ∀ (p : Pl) (H' : Hp), p.ho = o → p.room = room → H p.hd = none → hAt C H' p [] → KeepO o H H' → Q .non H'
theorem c_hinit {f : Addr} {fd : FuncData} (T : TxtH K CH) (M : Mk K CH f) (mC : mg "Heap" = some (.ref CH)) (F : Fun K "__init__" "Heap.__init__" sHInit f fd) (b : Binds K fd ["self", "room"] []) : C8.Mak P w K mg base 1 "Heap" CH (spHInit CH) [] := by
  refine ⟨f, fd, ["self", "room"], [], M, F.ok scHInit (fun vs H Q E h => ?_) (fun cdv A outer s H vs Q E hr h => ?_), mC, b, .nil⟩
  · obtain ⟨o, dx, room, rfl, _⟩ := h
    rfl
  obtain ⟨o, dx, room, rfl, ho, q⟩ := h
  refine ⟨_, (pss_cons (ps_fld (pv 0) (pv 1) rfl)
    (pss_cons (ps_fld (pv 0) pe_int rfl)
    (pss_cons (ps_fld (pv 0) pe_dnewK rfl)
    (pss_one (ps_fld (pv 0) pe_int rfl))))), ?_⟩
  refine ⟨_, rfl, _, rfl, o, CH, dx, [], rfl, ho, T.cl, T.nR, (by show 0 < 1000; decide), ?_⟩
  refine ⟨_, rfl, o, CH, dx, _, rfl, upd_same, T.cl, T.nU, (by show 1 < 1000; decide), ?_⟩
  intro d hd
  have nod : o ≠ d := fun e => by rw [← e, upd_same] at hd; cases hd
  have hd0 : H d = none := by rw [upd_ne nod.symm, upd_ne nod.symm] at hd; exact hd
  refine ⟨_, rfl, o, CH, dx, _, rfl, (by rw [upd_ne nod, upd_same]), T.cl, T.nC, (by show 2 < 1000; decide), ?_⟩
  refine ⟨_, rfl, o, CH, dx, _, rfl, upd_same, T.cl, T.nN, (by show 3 < 1000; decide), ?_⟩
  refine q ⟨o, o, d, o, o, o, room, .non⟩ _ rfl rfl hd0 ⟨⟨dx, upd_same⟩, [], ?_, rfl⟩ fun x u hx hxu => ?_
  · show upd _ _ _ d = _
    rw [upd_ne nod.symm, upd_ne nod.symm, upd_same]
  · rw [upd_ne hx, upd_ne hx, upd_ne (ne_of_none hxu hd0), upd_ne hx, upd_ne hx]
    exact hxu
abbrev sMInit : Stmt := inClass (topS 57) 0
theorem scMInit : FnScope ["self", "program", "room", "functions", "main", "index", "arity", "body"] ["self", "program", "room"] (defScope sMInit) := ⟨rfl, rfl, rfl, by decide +kernel, rfl, by decide +kernel, by decide +kernel⟩
def spMInit (K : PySem.W.Frag) (CM CH : Addr) : Sp := fun vs H Q _ => ∃ (o dx fa ga : Addr) (xs : List V) (main room : Int) (fs : List (Int × Dd)), vs = [.ref o, .ref ga, .int room] ∧ H o = some (.ins CM dx []) ∧ H ga = some (.tup [.ref fa, .int main]) ∧ H fa = some (.tup xs) ∧ Dd.Ats F0 H (fs.map fnD) xs ∧ fs.length ≤ 1000 ∧
  ∀ (p : Pl) (nv : V) (H' : Hp), p.mo = o → p.room = room → p.fv = .ref fa → H p.ho = none → H p.hd = none → H p.sa = none → H p.ea = none → H p.na = none → KeepO o H H' → MkAt CM CH H' p (startM fs) nv 0 → NwAt K H' (.enter (2 * main)) nv → Q .non H'
theorem c_minit {f : Addr} {fd : FuncData} (T : TxtMi K mg CM) (TH : TxtH K CH) (cHeap : C8.Mak P w K mg base 1 "Heap" CH (spHInit CH) []) (cmake : C8.Met P w K mg base 2 CH "make" (spMake CH) []) (M : Mk K CM f) (mC : mg "Machine" = some (.ref CM)) (F : Fun K "__init__" "Machine.__init__" sMInit f fd) (b : Binds K fd ["self", "program", "room"] []) : C8.Mak P w K mg base 3 "Machine" CM (spMInit K CM CH) [] := by
  refine ⟨f, fd, ["self", "program", "room"], [], M, F.ok scMInit (fun vs H Q E h => ?_) (fun cdv A outer s H vs Q E hr h => ?_), mC, b, .nil⟩
  · obtain ⟨o, dx, fa, ga, xs, main, room, fs, rfl, _⟩ := h
    rfl
  obtain ⟨o, dx, fa, ga, xs, main, room, fs, rfl, ho, hga, hfa, hfx, hfl, q⟩ := h
  refine ⟨_, (pss_cons (ps_asg (pv 1) (pg_tup rfl (pgs_cons (pg_name (i := 3) scMInit.nd rfl (Or.inl rfl)) (pgs_cons (pg_name (i := 4) scMInit.nd rfl (Or.inl rfl)) pgs_nil))))
    (pss_cons (ps_fld (pv 0) (pv 3) rfl)
    (pss_cons (ps_fld (pv 0) (C8.pe_mk cHeap hr (by decide) rfl (pa_cons (pv 2) pa_nil)) rfl)
    (pss_cons (ps_for PassesOwn.never rfl (pi_enumT rfl T.zenumerate (pa_cons (pv 3) pa_nil)) (pg_tup rfl (pgs_cons (pg_name (i := 5) scMInit.nd rfl (Or.inl rfl)) (pgs_cons (pg_tup rfl (pgs_cons (pg_name (i := 6) scMInit.nd rfl (Or.inl rfl)) (pgs_cons (pg_name (i := 7) scMInit.nd rfl (Or.inl rfl)) pgs_nil))) pgs_nil)))
      (pss_one (ps_expr (C8.pe_mt cmake hr (by decide) (pe_fld (pv 0) rfl) (pa_cons (pe_ifExp (pt_cmpR op_eq (pv 6) pe_int (nomark _)) (pe_tup (pa_cons pe_str (pa_cons (pv 7) (pa_cons (pe_tup pa_nil) (pa_cons (pv 5) pa_nil))))) (pe_tup (pa_cons pe_str (pa_cons (pv 5) (pa_cons (pe_tup pa_nil) pa_nil))))) pa_nil)))))
    (pss_cons (ps_fld (pv 0) (pe_callB call_len_seq rfl T.zlen PySem.boot_len (pa_cons (pv 3) pa_nil)) rfl)
    (pss_cons (ps_fld (pv 0) (pe_lst (pa_cons (pe_tup (pa_cons pe_str pa_nil)) pa_nil)) rfl)
    (pss_cons (ps_fld (pv 0) (pe_tup (pa_cons pe_str (pa_cons (pe_op op_mul pe_int (pv 4)) pa_nil))) rfl)
    (pss_cons (ps_fld (pv 0) (pe_lst pa_nil) rfl)
    (pss_cons (ps_fld (pv 0) (pe_lst pa_nil) rfl)
    (pss_one (ps_fld (pv 0) pe_int rfl))))))))))), ?_⟩
  refine ⟨_, rfl, ga, _, rfl, SqT.of hga, rfl, _, _, rfl, _, _, rfl, rfl, ?_⟩
  refine ⟨_, rfl, _, rfl, o, CM, dx, [], rfl, ho, T.cl, T.n_functions, (by show 0 < 1000; decide), ?_⟩
  have ho1 : upd H o (.ins CM dx (putF "functions" (.ref fa) [])) o = some (.ins CM dx [("functions", .ref fa)]) := upd_same
  have k1 : KeepO o H (upd H o (.ins CM dx (putF "functions" (.ref fa) []))) := fun b u n e => by rw [upd_ne n]; exact e
  generalize upd H o (.ins CM dx (putF "functions" (.ref fa) [])) = H1 at ho1 k1 ⊢
  refine ⟨_, rfl, fun hO hX hhO hhX nex => ?_⟩
  have nOo : hO ≠ o := fun e => by rw [e, ho1] at hhO; cases hhO
  have nXo : hX ≠ o := fun e => by rw [e, ho1] at hhX; cases hhX
  have s2 : Same H1 (upd (upd H1 hX (.own hO)) hO (.ins CH hX [])) := fun b u e => by
    rw [upd_ne (ne_of_none e hhO), upd_ne (ne_of_none e hhX)]
    exact e
  have eO : upd (upd H1 hX (.own hO)) hO (.ins CH hX []) hO = some (.ins CH hX []) := upd_same
  generalize upd (upd H1 hX (.own hO)) hO (.ins CH hX []) = H2 at s2 eO ⊢
  refine ⟨hO, hX, room, rfl, eO, fun p0 H3 hp1 hp2 hp3 hA k3 => ⟨rfl, ?_⟩⟩
  subst hp1
  have s23 : Same H1 H3 := fun b u e => k3 b u (ne_of_none e hhO) (s2 _ _ e)
  have hd1 : H1 p0.hd = none := by
    cases e : H1 p0.hd with
    | none => rfl
    | some u => rw [s2 _ _ e] at hp3; cases hp3
  have nDo : p0.hd ≠ o := fun e => by rw [e, ho1] at hd1; cases hd1
  have off : ∀ {b : Addr}, H1 b = none → b ≠ o → H b = none := fun {b} h n => by
    cases e : H b with
    | none => rfl
    | some u => rw [k1 _ _ n e] at h; cases h
  refine ⟨_, rfl, o, CM, dx, _, rfl, s23 _ _ ho1, T.cl, T.n_heap, (by show 1 < 1000; decide), ?_⟩
  have ho4 : upd H3 o (.ins CM dx (putF "heap" (.ref p0.ho) [("functions", .ref fa)])) o = some (.ins CM dx [("functions", .ref fa), ("heap", .ref p0.ho)]) := upd_same
  have f4 : Fr F0 H3 (upd H3 o (.ins CM dx (putF "heap" (.ref p0.ho) [("functions", .ref fa)]))) := fr_upd (s23 _ _ ho1) fun _ z => by cases z
  have hA4 := hA.keep f4 (upd_ne nOo) (upd_ne nDo)
  have k4 : KeepO o H (upd H3 o (.ins CM dx (putF "heap" (.ref p0.ho) [("functions", .ref fa)]))) := fun b u n e => by rw [upd_ne n]; exact s23 _ _ (k1 _ _ n e)
  have nod : p0.ho ≠ p0.hd := fun e => by
    obtain ⟨⟨dy, h1⟩, kvs, h2, _⟩ := hA
    rw [e, h2] at h1
    cases h1
  generalize upd H3 o (.ins CM dx (putF "heap" (.ref p0.ho) [("functions", .ref fa)])) = H4 at ho4 f4 hA4 k4 ⊢
  have nf : ∀ {b : Addr} {u : HO}, H b = some u → b ≠ p0.ho ∧ b ≠ p0.hd := fun {b u} e => by
    by_cases c : b = o
    · exact ⟨fun z => nOo (by rw [← z, c]), fun z => nDo (by rw [← z, c])⟩
    · exact ⟨fun z => (by rw [← z, k1 _ _ c e] at hhO; cases hhO), fun z => (by rw [← z, k1 _ _ c e] at hd1; cases hd1)⟩
  have nfa : fa ≠ o := fun z => by rw [z, ho] at hfa; cases hfa
  have hfa4 := k4 _ _ nfa hfa
  have hxl := ats_len hfx
  rw [List.length_map] at hxl
  refine ⟨_, rfl, fa, xs, rfl, SqT.of hfa4, for_enumT (fun i σ G => ∃ v5 v6 v7 : Option V, σ = [some (.ref o), some (.ref ga), some (.int room), some (.ref fa), some (.int main), v5, v6, v7] ∧ KeepO o H G ∧ G o = some (.ins CM dx [("functions", .ref fa), ("heap", .ref p0.ho)]) ∧ hAt CH G p0 (startC 0 (fs.take i)))
    ⟨_, _, _, rfl, k4, ho4, hA4⟩ (fun i σ G ⟨_, _, _, _, kG, _⟩ => SqT.of (kG _ _ nfa hfa)) ?_ ?_⟩
  · rintro i x tt σ G hx ⟨v5, v6, v7, rfl, kG, hoG, hG⟩ htt
    obtain ⟨k, hk, hkat⟩ := ats_get hfx hx
    rw [List.getElem?_map] at hk
    obtain ⟨q0, hq0, rfl⟩ : ∃ q0, fs[i]? = some q0 ∧ fnD q0 = k := by
      cases e : fs[i]? with
      | none => rw [e] at hk; cases hk
      | some q0 => rw [e] at hk; exact ⟨q0, rfl, Option.some.inj hk⟩
    have hil : i < fs.length := (List.getElem?_eq_some_iff.mp hq0).1
    obtain ⟨t, ts, rfl, ht, y1, zs1, rfl, hy1, y2, zs2, rfl, hy2, hn⟩ := hkat
    cases (show zs2 = [] from hn)
    cases (show y1 = .int q0.1 from hy1)
    have frK : ∀ {G' : Hp}, KeepO o H G' → Fr F0 H G' := fun {G'} kk => ⟨fun b us e => kk _ _ (fun z => by rw [z, ho] at e; cases e) e, fun _ _ z _ => z.elim⟩
    have hto : t ≠ o := fun z => by rw [z, ho] at ht; cases ht
    have s5 := same_new htt (.tup [.int (i : Nat), .ref t])
    have e5 : upd G tt (.tup [.int (i : Nat), .ref t]) tt = some (.tup [.int (i : Nat), .ref t]) := upd_same
    have kG5 : KeepO o H (upd G tt (.tup [.int (i : Nat), .ref t])) := fun b u n e => s5 _ _ (kG b u n e)
    have hoG5 := s5 _ _ hoG
    have hG5 := hG.same s5
    generalize upd G tt (.tup [.int (i : Nat), .ref t]) = G5 at s5 e5 kG5 hoG5 hG5 ⊢
    refine ⟨tt, _, rfl, SqT.of e5, rfl, _, _, rfl, _, _, rfl, t, _, rfl, SqT.of (kG5 _ _ hto ht), rfl, _, _, rfl, _, _, rfl, rfl, rfl, ?_⟩
    have hby := hy2.keep (frK kG5)
    obtain ⟨⟨dyG, hhG⟩, _⟩ := id hG5
    have hcl := startC_len (fs.take i) 0
    rw [List.length_take] at hcl
    -- the cell is made
    have fin : ∀ (c : Cl) (v : V) (G6 : Hp), Same G5 G6 → c.D.At F0 G6 v → (if q0.1 = 0 then Cl.lat q0.2 [] (i : Int) else .part (i : Int) []) = c → spMake CH [.ref p0.ho, v] G6 (fun _ G7 => ∃ v5 v6 v7 : Option V, [some (.ref o), some (.ref ga), some (.int room), some (.ref fa), some (.int main), some (.int (i : Nat)), some (.int q0.1), some y2] = [some (.ref o), some (.ref ga), some (.int room), some (.ref fa), some (.int main), v5, v6, v7] ∧ KeepO o H G7 ∧ G7 o = some (.ins CM dx [("functions", .ref fa), ("heap", .ref p0.ho)]) ∧ hAt CH G7 p0 (startC 0 (fs.take (i + 1)))) C8.E0 := fun c v G6 s6 hc he => by
      refine ⟨p0, _, v, c, rfl, hG5.same s6, nod, hc, by omega, fun G7 k7 h7 => ⟨_, _, _, rfl, fun b u n e => ?_, ?_, ?_⟩⟩
      · obtain ⟨n1, n2⟩ := nf e
        exact k7 _ _ n1 n2 (s6 _ _ (kG5 b u n e))
      · exact k7 _ _ nOo.symm nDo.symm (s6 _ _ hoG5)
      · rw [take_snoc hq0, startC_snoc, List.length_take, Nat.zero_add, Nat.min_eq_left (by omega), he]
        exact h7
    refine ⟨_, rfl, o, CM, dx, _, .ref p0.ho, rfl, hoG5, T.cl, T.n_heap, rfl, p0.ho, dyG, _, rfl, hhG, fldH_no_make .., ?_⟩
    refine ⟨_, rfl, rfl, _, rfl, ?_⟩
    show if decide (V.int q0.1 = V.int 0) = true then _ else _
    by_cases c0 : q0.1 = 0
    · rw [ieq c0]
      refine iteT ?_
      refine ⟨_, rfl, by show 0 ≤ sizeLine; decide, fun t7 ht7 => ⟨_, rfl, by show 4 ≤ sizeLine; decide, fun t8 ht8 => ?_⟩⟩
      have s7 := same_new ht7 (.tup [])
      have e7 : upd G5 t7 (.tup []) t7 = some (.tup (([] : List Int).map V.int)) := upd_same
      have s8 := same_new ht8 (.tup [.str "later", y2, .ref t7, .int (i : Nat)])
      exact fin (.lat q0.2 [] (i : Int)) _ _ (sameT s7 s8) (at_tup upd_same (ats_cons (at_str' (by decide +kernel)) (ats_cons (hby.keep (fr_same (sameT s7 s8))) (ats_cons (ws_of (s8 _ _ e7)) (ats_cons rfl ats_nil))))) (if_pos c0)
    · rw [ine c0]
      refine iteF ?_
      refine ⟨_, rfl, by show 0 ≤ sizeLine; decide, fun t7 ht7 => ⟨by show 3 ≤ sizeLine; decide, fun t8 ht8 => ?_⟩⟩
      have s7 := same_new ht7 (.tup [])
      have e7 : upd G5 t7 (.tup []) t7 = some (.tup (([] : List Int).map V.int)) := upd_same
      have s8 := same_new ht8 (.tup [.str "part", .int (i : Nat), .ref t7])
      exact fin (.part (i : Int) []) _ _ (sameT s7 s8) (at_tup upd_same (ats_cons (at_str' (by decide +kernel)) (ats_cons rfl (ats_cons (ws_of (s8 _ _ e7)) ats_nil)))) (if_neg c0)
  rintro σ G ⟨v5, v6, v7, rfl, kG, hoG, hG⟩
  rw [hxl, List.take_length] at hG
  have hfaG := kG _ _ nfa hfa
  refine ⟨_, rfl, fa, xs, rfl, .inr (SqT.of hfaG), _, rfl, o, CM, dx, _, rfl, hoG, T.cl, T.n_serial, (by show 2 < 1000; decide), ?_⟩
  rw [hxl]
  -- the other fields
  have hoA : upd G o (.ins CM dx (putF "next_serial" (.int (fs.length : Int)) [("functions", .ref fa), ("heap", .ref p0.ho)])) o = some (.ins CM dx [("functions", .ref fa), ("heap", .ref p0.ho), ("next_serial", .int (fs.length : Int))]) := upd_same
  have fA := fr_upd (o := .ins CM dx (putF "next_serial" (.int (fs.length : Int)) [("functions", .ref fa), ("heap", .ref p0.ho)])) hoG fun _ z => by cases z
  have hGA := hG.keep fA (upd_ne nOo) (upd_ne nDo)
  have kA : KeepO o H (upd G o (.ins CM dx (putF "next_serial" (.int (fs.length : Int)) [("functions", .ref fa), ("heap", .ref p0.ho)]))) := fun b u n e => by rw [upd_ne n]; exact kG _ _ n e
  generalize upd G o (.ins CM dx (putF "next_serial" (.int (fs.length : Int)) [("functions", .ref fa), ("heap", .ref p0.ho)])) = GA at hoA hGA kA ⊢
  have fresh : ∀ {G' : Hp} {b : Addr}, KeepO o H G' → G' o ≠ none → G' b = none → H b = none := fun {G' b} kk h0 h => by
    by_cases c : b = o
    · rw [c] at h; exact absurd h h0
    · cases e : H b with
      | none => rfl
      | some u => rw [kk _ _ c e] at h; cases h
  have lv : ∀ {G' : Hp} {cs : List Cl}, hAt CH G' p0 cs → G' p0.ho ≠ none ∧ G' p0.hd ≠ none := fun {G' cs} ⟨⟨dy, h1⟩, kvs, h2, _⟩ => ⟨fun z => (by rw [h1] at z; cases z), fun z => (by rw [h2] at z; cases z)⟩
  refine ⟨by show 1 ≤ sizeLine; decide, fun t1 ht1 => ⟨by show 1 ≤ sizeLine; decide, fun sa hsa => ?_⟩⟩
  have s1 := same_new ht1 (.tup [.str "show"])
  have e1 : upd GA t1 (.tup [.str "show"]) t1 = some (.tup [.str "show"]) := upd_same
  generalize upd GA t1 (.tup [.str "show"]) = GB at s1 e1 hsa ⊢
  have s2' := same_new hsa (.lst [.ref t1])
  have eS : upd GB sa (.lst [.ref t1]) sa = some (.lst [.ref t1]) := upd_same
  have s12 := sameT s1 s2'
  have e1' := s2' _ _ e1
  have hoC := s12 _ _ hoA
  have hGC := hGA.same s12
  have kC : KeepO o H (upd GB sa (.lst [.ref t1])) := fun b u n e => s12 _ _ (kA b u n e)
  have hsaN : H sa = none := fresh (G' := GB) (fun b u n e => s1 _ _ (kA b u n e)) (by rw [s1 _ _ hoA]; exact fun z => by cases z) hsa
  have nsa : sa ≠ o ∧ sa ≠ p0.ho ∧ sa ≠ p0.hd := ⟨fun z => (by rw [z, s1 _ _ hoA] at hsa; cases hsa), fun z => (lv (hGA.same s1)).1 (by rw [← z]; exact hsa), fun z => (lv (hGA.same s1)).2 (by rw [← z]; exact hsa)⟩
  generalize upd GB sa (.lst [.ref t1]) = GC at s2' eS s12 e1' hoC hGC kC ⊢
  refine ⟨_, rfl, o, CM, dx, _, rfl, hoC, T.cl, T.n_stack, (by show 3 < 1000; decide), ?_⟩
  have hoD : upd GC o (.ins CM dx (putF "stack" (.ref sa) [("functions", .ref fa), ("heap", .ref p0.ho), ("next_serial", .int (fs.length : Int))])) o = some (.ins CM dx [("functions", .ref fa), ("heap", .ref p0.ho), ("next_serial", .int (fs.length : Int)), ("stack", .ref sa)]) := upd_same
  have fD := fr_upd (o := .ins CM dx (putF "stack" (.ref sa) [("functions", .ref fa), ("heap", .ref p0.ho), ("next_serial", .int (fs.length : Int))])) hoC fun _ z => by cases z
  have hGD := hGC.keep fD (upd_ne nOo) (upd_ne nDo)
  have kD : KeepO o H (upd GC o (.ins CM dx (putF "stack" (.ref sa) [("functions", .ref fa), ("heap", .ref p0.ho), ("next_serial", .int (fs.length : Int))]))) := fun b u n e => by rw [upd_ne n]; exact kC _ _ n e
  have eSD : upd GC o (.ins CM dx (putF "stack" (.ref sa) [("functions", .ref fa), ("heap", .ref p0.ho), ("next_serial", .int (fs.length : Int))])) sa = some (.lst [.ref t1]) := by rw [upd_ne nsa.1]; exact eS
  have e1D := fD.1 _ _ e1'
  generalize upd GC o (.ins CM dx (putF "stack" (.ref sa) [("functions", .ref fa), ("heap", .ref p0.ho), ("next_serial", .int (fs.length : Int))])) = GD at hoD hGD kD eSD e1D ⊢
  refine ⟨_, rfl, _, _, rfl, rfl, .inl ⟨by decide, by decide⟩, by show 2 ≤ sizeLine; decide, fun tn htn => ?_⟩
  have s3 := same_new htn (.tup [.str "enter", .int (2 * main)])
  have eN : upd GD tn (.tup [.str "enter", .int (2 * main)]) tn = some (.tup [.str "enter", .int (2 * main)]) := upd_same
  have hoE := s3 _ _ hoD
  have hGE := hGD.same s3
  have kE : KeepO o H (upd GD tn (.tup [.str "enter", .int (2 * main)])) := fun b u n e => s3 _ _ (kD b u n e)
  have eSE := s3 _ _ eSD
  have e1E := s3 _ _ e1D
  generalize upd GD tn (.tup [.str "enter", .int (2 * main)]) = GE at s3 eN hoE hGE kE eSE e1E ⊢
  have eNE := eN
  refine ⟨_, rfl, o, CM, dx, _, rfl, hoE, T.cl, T.n_now, (by show 4 < 1000; decide), ?_⟩
  have hoF : upd GE o (.ins CM dx (putF "now" (.ref tn) [("functions", .ref fa), ("heap", .ref p0.ho), ("next_serial", .int (fs.length : Int)), ("stack", .ref sa)])) o = some (.ins CM dx [("functions", .ref fa), ("heap", .ref p0.ho), ("next_serial", .int (fs.length : Int)), ("stack", .ref sa), ("now", (.ref tn))]) := upd_same
  have fF := fr_upd (o := .ins CM dx (putF "now" (.ref tn) [("functions", .ref fa), ("heap", .ref p0.ho), ("next_serial", .int (fs.length : Int)), ("stack", .ref sa)])) hoE fun _ z => by cases z
  have hGF := hGE.keep fF (upd_ne nOo) (upd_ne nDo)
  have kF : KeepO o H (upd GE o (.ins CM dx (putF "now" (.ref tn) [("functions", .ref fa), ("heap", .ref p0.ho), ("next_serial", .int (fs.length : Int)), ("stack", .ref sa)]))) := fun b u n e => by rw [upd_ne n]; exact kE _ _ n e
  have eSF : upd GE o (.ins CM dx (putF "now" (.ref tn) [("functions", .ref fa), ("heap", .ref p0.ho), ("next_serial", .int (fs.length : Int)), ("stack", .ref sa)])) sa = _ := (upd_ne nsa.1).trans eSE
  have e1F := fF.1 _ _ e1E
  have eNF := fF.1 _ _ eNE
  generalize upd GE o (.ins CM dx (putF "now" (.ref tn) [("functions", .ref fa), ("heap", .ref p0.ho), ("next_serial", .int (fs.length : Int)), ("stack", .ref sa)])) = GF at hoF hGF kF eSF e1F eNF ⊢
  refine ⟨by show 0 ≤ sizeLine; decide, fun ea hea => ?_⟩
  have slea := same_new hea (.lst [])
  have eeaG : upd GF ea (.lst []) ea = some (.lst []) := upd_same
  have hoG := slea _ _ hoF
  have hGG := hGF.same slea
  have kG : KeepO o H (upd GF ea (.lst [])) := fun b u n e => slea _ _ (kF b u n e)
  have heaN : H ea = none := fresh kF (by rw [hoF]; exact fun z => by cases z) hea
  have nea : ea ≠ o ∧ ea ≠ p0.ho ∧ ea ≠ p0.hd := ⟨fun z => (by rw [z, hoF] at hea; cases hea), fun z => (lv hGF).1 (by rw [← z]; exact hea), fun z => (lv hGF).2 (by rw [← z]; exact hea)⟩
  have eSG := slea _ _ eSF
  have neasa : ea ≠ sa := fun z => by rw [z, eSF] at hea; cases hea
  have e1G := slea _ _ e1F
  have eNG := slea _ _ eNF
  generalize upd GF ea (.lst []) = GG at slea eeaG hoG hGG kG eSG e1G eNG ⊢
  refine ⟨_, rfl, o, CM, dx, _, rfl, hoG, T.cl, T.n_events, (by show 5 < 1000; decide), ?_⟩
  have hoH : upd GG o (.ins CM dx (putF "events" (.ref ea) [("functions", .ref fa), ("heap", .ref p0.ho), ("next_serial", .int (fs.length : Int)), ("stack", .ref sa), ("now", .ref tn)])) o = some (.ins CM dx [("functions", .ref fa), ("heap", .ref p0.ho), ("next_serial", .int (fs.length : Int)), ("stack", .ref sa), ("now", .ref tn), ("events", (.ref ea))]) := upd_same
  have fH := fr_upd (o := .ins CM dx (putF "events" (.ref ea) [("functions", .ref fa), ("heap", .ref p0.ho), ("next_serial", .int (fs.length : Int)), ("stack", .ref sa), ("now", .ref tn)])) hoG fun _ z => by cases z
  have hGH := hGG.keep fH (upd_ne nOo) (upd_ne nDo)
  have kH : KeepO o H (upd GG o (.ins CM dx (putF "events" (.ref ea) [("functions", .ref fa), ("heap", .ref p0.ho), ("next_serial", .int (fs.length : Int)), ("stack", .ref sa), ("now", .ref tn)]))) := fun b u n e => by rw [upd_ne n]; exact kG _ _ n e
  have eSH : upd GG o (.ins CM dx (putF "events" (.ref ea) [("functions", .ref fa), ("heap", .ref p0.ho), ("next_serial", .int (fs.length : Int)), ("stack", .ref sa), ("now", .ref tn)])) sa = _ := (upd_ne nsa.1).trans eSG
  have e1H := fH.1 _ _ e1G
  have eNH := fH.1 _ _ eNG
  have eeaH : upd GG o (.ins CM dx (putF "events" (.ref ea) [("functions", .ref fa), ("heap", .ref p0.ho), ("next_serial", .int (fs.length : Int)), ("stack", .ref sa), ("now", .ref tn)])) ea = _ := (upd_ne nea.1).trans eeaG
  generalize upd GG o (.ins CM dx (putF "events" (.ref ea) [("functions", .ref fa), ("heap", .ref p0.ho), ("next_serial", .int (fs.length : Int)), ("stack", .ref sa), ("now", .ref tn)])) = GH at hoH hGH kH eSH e1H eNH eeaH ⊢
  refine ⟨by show 0 ≤ sizeLine; decide, fun na hna => ?_⟩
  have slna := same_new hna (.lst [])
  have enaI : upd GH na (.lst []) na = some (.lst []) := upd_same
  have hoI := slna _ _ hoH
  have hGI := hGH.same slna
  have kI : KeepO o H (upd GH na (.lst [])) := fun b u n e => slna _ _ (kH b u n e)
  have hnaN : H na = none := fresh kH (by rw [hoH]; exact fun z => by cases z) hna
  have nna : na ≠ o ∧ na ≠ p0.ho ∧ na ≠ p0.hd := ⟨fun z => (by rw [z, hoH] at hna; cases hna), fun z => (lv hGH).1 (by rw [← z]; exact hna), fun z => (lv hGH).2 (by rw [← z]; exact hna)⟩
  have eSI := slna _ _ eSH
  have nnasa : na ≠ sa := fun z => by rw [z, eSH] at hna; cases hna
  have e1I := slna _ _ e1H
  have eNI := slna _ _ eNH
  have eeaI := slna _ _ eeaH
  have nnaea : na ≠ ea := fun z => by rw [z, eeaH] at hna; cases hna
  generalize upd GH na (.lst []) = GI at slna enaI hoI hGI kI eSI e1I eNI eeaI ⊢
  refine ⟨_, rfl, o, CM, dx, _, rfl, hoI, T.cl, T.n_entered, (by show 6 < 1000; decide), ?_⟩
  have hoJ : upd GI o (.ins CM dx (putF "entered" (.ref na) [("functions", .ref fa), ("heap", .ref p0.ho), ("next_serial", .int (fs.length : Int)), ("stack", .ref sa), ("now", .ref tn), ("events", .ref ea)])) o = some (.ins CM dx [("functions", .ref fa), ("heap", .ref p0.ho), ("next_serial", .int (fs.length : Int)), ("stack", .ref sa), ("now", .ref tn), ("events", .ref ea), ("entered", (.ref na))]) := upd_same
  have fJ := fr_upd (o := .ins CM dx (putF "entered" (.ref na) [("functions", .ref fa), ("heap", .ref p0.ho), ("next_serial", .int (fs.length : Int)), ("stack", .ref sa), ("now", .ref tn), ("events", .ref ea)])) hoI fun _ z => by cases z
  have hGJ := hGI.keep fJ (upd_ne nOo) (upd_ne nDo)
  have kJ : KeepO o H (upd GI o (.ins CM dx (putF "entered" (.ref na) [("functions", .ref fa), ("heap", .ref p0.ho), ("next_serial", .int (fs.length : Int)), ("stack", .ref sa), ("now", .ref tn), ("events", .ref ea)]))) := fun b u n e => by rw [upd_ne n]; exact kI _ _ n e
  have eSJ : upd GI o (.ins CM dx (putF "entered" (.ref na) [("functions", .ref fa), ("heap", .ref p0.ho), ("next_serial", .int (fs.length : Int)), ("stack", .ref sa), ("now", .ref tn), ("events", .ref ea)])) sa = _ := (upd_ne nsa.1).trans eSI
  have e1J := fJ.1 _ _ e1I
  have eNJ := fJ.1 _ _ eNI
  have eeaJ : upd GI o (.ins CM dx (putF "entered" (.ref na) [("functions", .ref fa), ("heap", .ref p0.ho), ("next_serial", .int (fs.length : Int)), ("stack", .ref sa), ("now", .ref tn), ("events", .ref ea)])) ea = _ := (upd_ne nea.1).trans eeaI
  have enaJ : upd GI o (.ins CM dx (putF "entered" (.ref na) [("functions", .ref fa), ("heap", .ref p0.ho), ("next_serial", .int (fs.length : Int)), ("stack", .ref sa), ("now", .ref tn), ("events", .ref ea)])) na = _ := (upd_ne nna.1).trans enaI
  generalize upd GI o (.ins CM dx (putF "entered" (.ref na) [("functions", .ref fa), ("heap", .ref p0.ho), ("next_serial", .int (fs.length : Int)), ("stack", .ref sa), ("now", .ref tn), ("events", .ref ea)])) = GJ at hoJ hGJ kJ eSJ e1J eNJ eeaJ enaJ ⊢
  refine ⟨_, rfl, o, CM, dx, _, rfl, hoJ, T.cl, T.n_collections, (by show 7 < 1000; decide), ?_⟩
  have hoK : upd GJ o (.ins CM dx (putF "collections" (.int 0) [("functions", .ref fa), ("heap", .ref p0.ho), ("next_serial", .int (fs.length : Int)), ("stack", .ref sa), ("now", .ref tn), ("events", .ref ea), ("entered", .ref na)])) o = some (.ins CM dx [("functions", .ref fa), ("heap", .ref p0.ho), ("next_serial", .int (fs.length : Int)), ("stack", .ref sa), ("now", .ref tn), ("events", .ref ea), ("entered", .ref na), ("collections", (.int 0))]) := upd_same
  have fK := fr_upd (o := .ins CM dx (putF "collections" (.int 0) [("functions", .ref fa), ("heap", .ref p0.ho), ("next_serial", .int (fs.length : Int)), ("stack", .ref sa), ("now", .ref tn), ("events", .ref ea), ("entered", .ref na)])) hoJ fun _ z => by cases z
  have hGK := hGJ.keep fK (upd_ne nOo) (upd_ne nDo)
  have kK : KeepO o H (upd GJ o (.ins CM dx (putF "collections" (.int 0) [("functions", .ref fa), ("heap", .ref p0.ho), ("next_serial", .int (fs.length : Int)), ("stack", .ref sa), ("now", .ref tn), ("events", .ref ea), ("entered", .ref na)]))) := fun b u n e => by rw [upd_ne n]; exact kJ _ _ n e
  have eSK : upd GJ o (.ins CM dx (putF "collections" (.int 0) [("functions", .ref fa), ("heap", .ref p0.ho), ("next_serial", .int (fs.length : Int)), ("stack", .ref sa), ("now", .ref tn), ("events", .ref ea), ("entered", .ref na)])) sa = _ := (upd_ne nsa.1).trans eSJ
  have e1K := fK.1 _ _ e1J
  have eNK := fK.1 _ _ eNJ
  have eeaK : upd GJ o (.ins CM dx (putF "collections" (.int 0) [("functions", .ref fa), ("heap", .ref p0.ho), ("next_serial", .int (fs.length : Int)), ("stack", .ref sa), ("now", .ref tn), ("events", .ref ea), ("entered", .ref na)])) ea = _ := (upd_ne nea.1).trans eeaJ
  have enaK : upd GJ o (.ins CM dx (putF "collections" (.int 0) [("functions", .ref fa), ("heap", .ref p0.ho), ("next_serial", .int (fs.length : Int)), ("stack", .ref sa), ("now", .ref tn), ("events", .ref ea), ("entered", .ref na)])) na = _ := (upd_ne nna.1).trans enaJ
  generalize upd GJ o (.ins CM dx (putF "collections" (.int 0) [("functions", .ref fa), ("heap", .ref p0.ho), ("next_serial", .int (fs.length : Int)), ("stack", .ref sa), ("now", .ref tn), ("events", .ref ea), ("entered", .ref na)])) = GK at hoK hGK kK eSK e1K eNK eeaK enaK ⊢
  refine q ⟨o, p0.ho, p0.hd, sa, ea, na, room, .ref fa⟩ (.ref tn) GK rfl rfl rfl (off hhO nOo) (off hd1 nDo) hsaN heaN hnaN kK ⟨?_, ⟨dx, hoK⟩, ?_, ⟨_, eSK, ?_⟩, ⟨_, eeaK, rfl⟩, ⟨_, enaK, rfl⟩⟩ ?_
  · exact ⟨nOo.symm, nDo.symm, nsa.1.symm, nea.1.symm, nna.1.symm, nod, nsa.2.1.symm, nea.2.1.symm, nna.2.1.symm, nsa.2.2.symm, nea.2.2.symm, nna.2.2.symm, neasa.symm, nnasa.symm, nnaea.symm⟩
  · obtain ⟨⟨dy, h1⟩, kvs, h2, h3⟩ := hGK
    exact ⟨⟨dy, by rw [← hp2]; exact h1⟩, kvs, h2, h3⟩
  · exact ats_cons (at_tup e1K (ats_cons (at_str' (by decide +kernel)) ats_nil)) ats_nil
  · exact at_tup eNK (ats_cons (at_str' (by decide +kernel)) (ats_cons rfl ats_nil))
end
end Toy

set_option Elab.async false
set_option linter.all false
set_option maxRecDepth 100000
set_option maxHeartbeats 4000000
/-! Part O: code is run. -/
namespace L2
open PySem PySem.Spec PyProof.Rows
/-- a dict comprehension over a list that stays -/
theorem dc_list {K : PySem.W.Frag} {a : Addr} {xs : List V} {g : TG} {tt : TT} {tk tv : TE} {vs : List Nat} {σ : St} {H1 : Hp} {D : Addr} {Qd : Hp → Prop} (Pv : Nat → Hp → Prop) (h0 : Pv 0 (upd H1 D (.dK []))) (hl : ∀ i H, i ≤ xs.length → Pv i H → SqL K H a xs)
    (hs : ∀ i x H, xs[i]? = some x → Pv i H → g x (wipe σ vs) H fun σ2 H2 => wipe σ2 vs = wipe σ vs ∧ tt σ2 H2 fun b H3 =>
      if b = true then tk σ2 H3 fun y H4 => tv σ2 H4 fun z H5 => ∃ kvs k, y = kV k ∧ H5 D = some (.dK kvs) ∧ kvs.length < sizeLine ∧ Pv (i + 1) (upd H5 D (.dK (putK kvs k z))) else Pv (i + 1) H3) (hd : ∀ H, Pv xs.length H → Qd H) :
    ∃ W : Nat → Nat → Hp → Prop, (∃ m, W 0 m (upd H1 D (.dK []))) ∧ ∀ i m H, W i m H →
      ((Itl K a).stop i H ∧ Qd H) ∨ ((Itl K a).go i H ∧ ∃ Nx : Hp → Prop, (∀ H', Nx H' → ∃ m', m' < m ∧ W (i + 1) m' H') ∧ ∀ x H', (Itl K a).yld i H x H' → g x (wipe σ vs) H' fun σ2 H2 => wipe σ2 vs = wipe σ vs ∧ tt σ2 H2 fun b H3 =>
        if b = true then tk σ2 H3 fun y H4 => tv σ2 H4 fun z H5 => ∃ kvs k, y = kV k ∧ H5 D = some (.dK kvs) ∧ kvs.length < sizeLine ∧ Nx (upd H5 D (.dK (putK kvs k z))) else Nx H3) := by
  refine ⟨fun i m H => m = xs.length - i ∧ i ≤ xs.length ∧ Pv i H, ⟨xs.length, by simp, Nat.zero_le _, h0⟩, ?_⟩
  rintro i m H ⟨rfl, hi, p⟩
  have q := hl i H hi p
  by_cases hlt : i < xs.length
  · refine .inr ⟨⟨xs, xs[i], q, by simp [hlt]⟩, Pv (i + 1), fun H' p' => ⟨xs.length - (i + 1), by omega, rfl, hlt, p'⟩, fun x H' y => ?_⟩
    obtain ⟨e, y⟩ := y
    subst e
    exact hs i x _ (y xs q) p
  · have e : i = xs.length := by omega
    subst e
    exact .inl ⟨⟨xs, q, Nat.le_refl _⟩, hd H p⟩
end L2
namespace Toy
open PySem PySem.Spec PyProof.Rows L2
/-! ### y = {k: v for ..} -/
section
variable {X : Cx}
theorem ps_setDc {i : Nat} {y : Str} {py : Pos} {kx vx tg iter : Expr} {ifs : List Expr} {scope : Scope} {own : List (Str × Nat)} {pos spos : Pos} {wi : TI} {g : TG} {tt : TT} {tk tv : TE} (hc : X.calm = true) (hN : X.N.Nodup) (hy : X.N[i]? = some y) (hyl : X.env.scope.names.lookup y = some .local)
    (hsw : swapsWith (.DictComp kx vx [⟨tg, iter, ifs, 0⟩] scope pos) (some (.Name y py)) spos.line X.env = pure true) (hi : PI X tg iter wi) (ok : BlkOk X.N X.env.scope scope own)
    (hg : ∀ (s : Shared) (H : Hp) (C : Addr) (cl : List (Str × Addr)) (fp : List Addr), PG (X.blk s H scope (compEnvC scope cl C X.env) fp) tg g) (ht : ∀ (s : Shared) (H : Hp) (C : Addr) (cl : List (Str × Addr)) (fp : List Addr), PTs (X.blk s H scope (compEnvC scope cl C X.env) fp) ifs tt)
    (hk : ∀ (s : Shared) (H : Hp) (C : Addr) (cl : List (Str × Addr)) (fp : List Addr), PE (X.blk s H scope (compEnvC scope cl C X.env) fp) kx tk)
    (he : ∀ (s : Shared) (H : Hp) (C : Addr) (cl : List (Str × Addr)) (fp : List Addr), PE (X.blk s H scope (compEnvC scope cl C X.env) fp) vx tv) (hs : ∀ x, foldedSetIterable iter X.env x = pure x := by intro _; rfl) :
    PS X (.Assign [.Name y py] (.DictComp kx vx [⟨tg, iter, ifs, 0⟩] scope pos) spos) (tAsg (tDc wi g tt tk tv (own.map (·.2))) (gName i)) := by
  refine ⟨fun pins s σ H D I h => ?_⟩
  rw [exec_Assign_Name_used _ _ _ _ hsw]
  refine wpAny_bind (wpAny_standAt (wpAny_bind ?_))
  show wpAny _ X.A (do let _ ← comprehension (.DictComp kx vx [⟨tg, iter, ifs, 0⟩] scope pos) scope X.env (firstIterPos [⟨tg, iter, ifs, 0⟩] pos) newDict false (eval iter X.env) (some (assign (.Name y py) X.env))) _ _ s
  have h : tDc wi g tt tk tv (own.map (·.2)) σ H (fun x H1 => gName i x σ H1 D.nx) := h
  refine wpAny_bind (thn (dc_core (Qf := fun _ s' => SP X pins D .next s') hc hN I hi ok hg ht hk he hs h fun L C s' m H' I' q hn f => ?_) fun _ s' hq => wpAny_pure (wpAny_pure hq))
  show wpAny _ _ (assign (.Name y py) X.env (.ref L)) _ _ _
  refine wpAny_assign_Name (store_ok2 (v := V.ref L) I' hN hy (.inl hyl) rfl (fun s2 I2 ⟨a, sb, ha⟩ => ?_) (.inr hyl))
  obtain ⟨f0, f1, f2, f3, f4, f5⟩ := f
  have haC : C ≠ a := by
    rcases ha with z | z
    · rw [z]; exact f1
    · exact fun e => f4 y a z e.symm
  refine ⟨m, hn.sameBut sb haC, fun h3 sb3 => ?_⟩
  exact ⟨_, H', I2.turned (t' := s2.toks) (fun b o hb e => (sb3.2 b hb).trans e) f0 f1 f3 f4 f5, q⟩
theorem sw_trueD {kx vx : Expr} {gs : List Comprehension} {scope : Scope} {pos py : Pos} {y : Str} {l : Nat} {env : Env} (hk : env.scope.kind = .function) (hy : env.scope.names.lookup y = some .local) (hl : (py.line == pos.line) = true)
    (ha : (scope.names.any fun (n, k) => n == y && (k == .local || k == .cell)) = false) : swapsWith (.DictComp kx vx gs scope pos) (some (.Name y py)) l env = pure true := by
  have ky : env.kindOf y = some .local := hy
  have hb : env.blockKind = .function := by unfold Env.blockKind; rw [hk]; rfl
  unfold swapsWith
  simp only [hb, ky, ha, Expr.pos, hl]
  rfl
end
end Toy
namespace Toy
open PySem L2
open PyProof.Rows (envOfC)
/-- so many steps, or until it stops; there is always room -/
inductive RunS (fs : List (Int × Dd)) (room : Int) : Nat → Nw → Mc → Nw → Mc → Prop
  | stop {k : Nat} {n : Nw} {m : Mc} : n.run = false → RunS fs room k n m n m
  | more {n : Nw} {m : Mc} : RunS fs room 0 n m n m
  | step {k : Nat} {n n' n'' : Nw} {m m' m'' : Mc} : n.run = true → m.small → StS fs n m n' m' → (∀ z, NeedN fs n m z → used m.cs + z ≤ room) → RunS fs room k n' m' n'' m'' → RunS fs room (k + 1) n m n'' m''
/-- what a report says -/
def RepAt (K : PySem.W.Frag) (H : Hp) (n : Nw) (m : Mc) (v : V) : Prop := ∃ t te sv xs, v = .ref t ∧ H t = some (.tup [.ref te, sv, .int (m.ent.length : Int), .int 0]) ∧ H te = some (.tup xs) ∧ Dd.Ats F0 H (m.evs.map Ev.D) xs ∧ if n.run = true then (Dd.tup [.str "more"]).At F0 H sv else NwAt K H n sv
structure TxtRc (P : Program) (w : World) (K : PySem.W.Frag) (mg : Str → Option Value) (base : Heap) (CM CH pS fS : Addr) (fdS : FuncData) : Prop extends TxtStep P w K mg base CM CH pS fS fdS where
  zrange : mg "range" = none
  zlen : mg "len" = none
  ztuple : mg "tuple" = none
section
variable {P : Program} {w : World} {K : PySem.W.Frag} {mg : Str → Option Value} {base : Heap} {CM CH pS fS : Addr} {fdS : FuncData}
abbrev sRunCode : Stmt := topS 60
theorem scRunCode : FnScope ["program", "room", "schedule", "steps", "machine", "number", "scheduled", "state"] ["program", "room", "schedule", "steps"] (defScope sRunCode) := ⟨rfl, rfl, rfl, by decide +kernel, rfl, by decide +kernel, by decide +kernel⟩
def spRunCode (K : PySem.W.Frag) : Sp := fun vs H Q _ => ∃ (fa ga la : Addr) (xs : List V) (main room : Int) (N : Nat) (fs : List (Int × Dd)) (n : Nw) (m : Mc), vs = [.ref ga, .int room, .ref la, .int (N : Int)] ∧ H ga = some (.tup [.ref fa, .int main]) ∧ H fa = some (.tup xs) ∧ Dd.Ats F0 H (fs.map fnD) xs ∧ fs.length ≤ 1000 ∧ H la = some (.lst []) ∧ N ≤ 100000 ∧ RunS fs room N (.enter (2 * main)) (startM fs) n m ∧
  ∀ (v : V) (H' : Hp), Same H H' → RepAt K H' n m v → Q v H'
theorem c_runcode {f : Addr} {fd : FuncData} (T : TxtRc P w K mg base CM CH pS fS fdS) (cMachine : C8.Mak P w K mg base 3 "Machine" CM (spMInit K CM CH) []) (ccollect : C8.Met P w K mg base 1 CM "collect" (fun _ _ _ _ => False) []) (cstep : C8.Met P w K mg base 6 CM "step" (spStep K CM CH) []) (F : Fun K "run_code" "run_code" sRunCode f fd) (b : Binds K fd ["program", "room", "schedule", "steps"] []) (hm : mg "run_code" = some (.ref f)) : C8.Cal P w K mg base 7 "run_code" (spRunCode K) [] := by
  refine cal_of F hm b scRunCode (fun vs H Q E h => ?_) (fun cdv A outer s H vs Q E hr h => ?_)
  · obtain ⟨fa, ga, la, xs, main, room, N, fs, n, m, rfl, _⟩ := h
    rfl
  obtain ⟨fa, ga, la, xs, main, room, N, fs, n, m, rfl, hga, hfa, hfx, hfl, hla, hN, hrun, q⟩ := h
  have hu := hu_of hr
  refine ⟨_, (pss_cons (ps_set (i := 4) scRunCode.nd rfl (Or.inl rfl) (C8.pe_mk cMachine hr (by decide) rfl (pa_cons (pv 0) (pa_cons (pv 1) pa_nil))))
    (pss_cons (ps_setDc (i := 6) (own := [("number", 5)]) (g := gName 5) (tt := tYes) rfl scRunCode.nd rfl rfl (sw_trueD rfl rfl rfl (by decide +kernel)) (pi_list (pv 2)) (blkOk_by (own := [("number", 5)]) (N := ["program", "room", "schedule", "steps", "machine", "number", "scheduled", "state"]) (sc := defScope sRunCode) (by decide +kernel)) (fun _ _ _ _ _ => (pg_name (i := 5) scRunCode.nd rfl (Or.inl rfl))) (fun _ _ _ _ _ => pts_nil) (fun _ _ _ _ _ => (pv 5)) (fun _ _ _ _ _ => pe_bl))
    (C8.pss_cut (ps_for PassesOwn.never rfl (pi_range1 rfl T.zrange (pa_cons (pv 3) pa_nil)) (pg_name (i := 5) scRunCode.nd rfl (Or.inl rfl))
      (pss_cons (ps_if (pt_val (pe_prop (E := C8.E0) (pv 4) T.cl T.hpStop T.fStop (hr.mono (by decide)) T.bStop .nil C8.pass0 rfl))
      (pss_one ps_break)
      pss_nil)
    (pss_cons (ps_if (pt_cmp (pc_din hu (pv 5) (pv 6)))
      (pss_one (ps_expr (C8.pe_mt0 ccollect hr (by decide) (pv 4))))
      pss_nil)
    (pss_one (ps_expr (C8.pe_mt0 cstep hr (by decide) (pv 4)))))))
    (C8.pss_cut (ps_set (i := 7) scRunCode.nd rfl (Or.inl rfl) (pe_ifExp (pt_val (pe_prop (E := C8.E0) (pv 4) T.cl T.hpStop T.fStop (hr.mono (by decide)) T.bStop .nil C8.pass0 rfl)) (pe_fld (pv 4) rfl) (pe_tup (pa_cons pe_str pa_nil))))
    (pss_one (ps_ret (pe_tup (pa_cons (pe_callTy call_tuple_of rfl T.ztuple boot_tuple (pa_cons (pe_fld (pv 4) rfl) pa_nil)) (pa_cons (pv 7) (pa_cons (pe_callB call_len_seq rfl T.zlen PySem.boot_len (pa_cons (pe_fld (pv 4) rfl) pa_nil)) (pa_cons (pe_fld (pv 4) rfl) pa_nil))))))))))), ?_⟩
  refine ⟨_, rfl, _, rfl, fun mo dx hmo hdx nex => ?_⟩
  have s1 : Same H (upd (upd H dx (.own mo)) mo (.ins CM dx [])) := fun b u e => by
    rw [upd_ne (ne_of_none e hmo), upd_ne (ne_of_none e hdx)]
    exact e
  refine ⟨mo, dx, fa, ga, xs, main, room, fs, rfl, upd_same, s1 _ _ hga, s1 _ _ hfa, hfx.keep (fr_same s1), hfl, fun p nv H1 hp1 hp2 hp3 f1 f2 f3 f4 f5 k1 M1 hn1 => ⟨rfl, ?_⟩⟩
  subst hp1
  -- the machine is new
  have new : ∀ {G : Hp}, KeepM p H1 G → Same H G := fun {G} k b u e => by
    have e1 := s1 _ _ e
    exact k b u (ne_of_none e hmo) (ne_of_none e1 f1) (ne_of_none e1 f2) (ne_of_none e1 f3) (ne_of_none e1 f4) (ne_of_none e1 f5) (k1 _ _ (ne_of_none e hmo) e1)
  refine ⟨_, rfl, la, rfl, ⟨_, SqL.of (new KeepM.refl _ _ hla)⟩, fun D hD => ?_⟩
  have s2 := same_new hD (.dK [])
  have M2 := M1.same s2
  have hn2 := hn1.keep s2
  have eD : upd H1 D (.dK []) D = some (.dK []) := upd_same
  have new2 : ∀ {G : Hp}, KeepM p (upd H1 D (.dK [])) G → Same H G := fun {G} k => new ((KeepM.same s2).trans k)
  have hla2 := s2 _ _ (new KeepM.refl _ _ hla)
  have hF2 : FsAt (upd H1 D (.dK [])) fs p.fv := ⟨fa, xs, hp3, new2 KeepM.refl _ _ hfa, hfx.keep (fr_same (new2 KeepM.refl))⟩
  refine dc_list (K := K) (a := la) (xs := []) (fun i G => G = upd H1 D (.dK [])) rfl (fun i G hi h => by rw [h]; exact SqL.of hla2) (fun i x G hx => by simp at hx) ?_
  rintro _ rfl
  generalize upd H1 D (.dK []) = H2 at s2 M2 hn2 eD new2 hla2 hF2 ⊢
  have nD : D ≠ p.mo ∧ D ≠ p.ho ∧ D ≠ p.hd ∧ D ≠ p.sa ∧ D ≠ p.ea ∧ D ≠ p.na := by
    obtain ⟨_, ⟨dy, o1⟩, ⟨⟨dz, o2⟩, kvs, o3, _⟩, ⟨_, o4, _⟩, ⟨_, o5, _⟩, ⟨_, o6, _⟩⟩ := M1
    refine ⟨fun z => ?_, fun z => ?_, fun z => ?_, fun z => ?_, fun z => ?_, fun z => ?_⟩
    · rw [z, o1] at hD; cases hD
    · rw [z, o2] at hD; cases hD
    · rw [z, o3] at hD; cases hD
    · rw [z, o4] at hD; cases hD
    · rw [z, o5] at hD; cases hD
    · rw [z, o6] at hD; cases hD
  -- the loop
  refine ⟨fun σ' G => ∃ (v5 v7 : Option V) (nv : V), σ' = [some (.ref ga), some (.int room), some (.ref la), some (.int (N : Int)), some (.ref p.mo), v5, some (.ref D), v7] ∧ KeepM p H2 G ∧ MkAt CM CH G p m nv 0 ∧ NwAt K G n nv, ?_, ?_⟩
  · refine ⟨_, rfl, (N : Int), rfl, by omega, by omega, for_range (fun i σ G => ∃ (v5 v7 : Option V) (nv : V) (ni : Nw) (mi : Mc), σ = [some (.ref ga), some (.int room), some (.ref la), some (.int (N : Int)), some (.ref p.mo), v5, some (.ref D), v7] ∧ KeepM p H2 G ∧ MkAt CM CH G p mi nv 0 ∧ NwAt K G ni nv ∧ RunS fs room (N - i) ni mi n m)
      ⟨_, _, nv, _, _, rfl, KeepM.refl, M2, hn2, hrun⟩ ?_ ?_⟩
    · rintro i σ G hi ⟨v5, v7, nv, ni, mi, rfl, kG, MG, hnG, hr⟩
      have hi2 : i < N := by simpa using hi
      obtain ⟨dxG, hoG⟩ := MG.o
      refine ⟨_, rfl, p.mo, dxG, _, rfl, hoG, p, mi, nv, 0, ni, rfl, MG, hnG, ?_⟩
      refine ⟨_, rfl, ?_⟩
      obtain ⟨k, hk⟩ : ∃ k, N - i = k + 1 := ⟨N - i - 1, by omega⟩
      rw [hk] at hr
      cases hr with
      | stop h =>
        rw [h]
        refine iteT ?_
        exact ⟨_, _, nv, rfl, kG, MG, hnG⟩
      | @step _ _ n1 _ _ m1 _ h hs hst hfit hr1 =>
        rw [h]
        refine iteF ?_
        refine ⟨_, rfl, _, rfl, D, _, rfl, DGet.k (k := Sum.inl (0 + (i : Int))) (kG _ _ nD.1 nD.2.1 nD.2.2.1 nD.2.2.2.1 nD.2.2.2.2.1 nD.2.2.2.2.2 eD), ?_⟩
        refine ⟨_, rfl, ?_⟩
        refine iteF ?_
        refine ⟨_, rfl, p.mo, dxG, _, rfl, hoG, fM_no_step .., p, mi, m1, nv, 0, fs, ni, n1, rfl, MG, hnG, hF2.keep (M2.fr kG), hs, h, hst, by rw [hp2]; exact hfit, fun nv' G' k' M' hn' => ?_⟩
        exact ⟨_, _, nv', n1, m1, rfl, kG.trans k', M', hn', by rw [show N - (i + 1) = k by omega]; exact hr1⟩
    · rintro σ G ⟨v5, v7, nv, ni, mi, rfl, kG, MG, hnG, hr⟩
      rw [show N - ((N : Int)).toNat = 0 by omega] at hr
      cases hr with
      | stop h => exact ⟨_, _, nv, rfl, kG, MG, hnG⟩
      | more => exact ⟨_, _, nv, rfl, kG, MG, hnG⟩
  rintro _ G ⟨v5, v7, nvE, rfl, kG, MG, hnG⟩
  obtain ⟨dxG, hoG⟩ := MG.o
  -- the state
  refine ⟨fun σ' G' => ∃ sv : V, σ' = [some (.ref ga), some (.int room), some (.ref la), some (.int (N : Int)), some (.ref p.mo), v5, some (.ref D), some sv] ∧ Same G G' ∧ (if n.run = true then (Dd.tup [.str "more"]).At F0 G' sv else NwAt K G' n sv), ?_, ?_⟩
  · refine ⟨_, rfl, p.mo, dxG, _, rfl, hoG, p, m, nvE, 0, n, rfl, MG, hnG, ?_⟩
    refine ⟨_, rfl, ?_⟩
    cases hc : n.run with
    | false =>
      refine iteT ?_
      refine ⟨_, rfl, p.mo, CM, dxG, _, _, rfl, hoG, T.cl, T.n_now, fM_now .., nvE, rfl, same_id, ?_⟩
      rw [if_neg (by decide)]
      exact hnG
    | true =>
      refine iteF ?_
      refine ⟨by show 1 ≤ sizeLine; decide, fun t ht => ⟨_, rfl, same_new ht _, ?_⟩⟩
      rw [if_pos rfl]
      exact at_tup upd_same (ats_cons (at_str' (by decide +kernel)) ats_nil)
  rintro _ G2 ⟨sv, rfl, s3, hsv⟩
  have MG2 := MG.same s3
  obtain ⟨dx2, ho2⟩ := MG2.o
  obtain ⟨es, hes, hesA⟩ := id MG2.e
  refine ⟨_, rfl, p.mo, CM, dx2, _, _, rfl, ho2, T.cl, T.n_events, fM_events .., p.ea, es, rfl, .inl ⟨SqL.of hes, fun te hte => ?_⟩⟩
  have s4 := same_new hte (.tup es)
  have eT : upd G2 te (.tup es) te = some (.tup es) := upd_same
  have MG3 := MG2.same s4
  generalize upd G2 te (.tup es) = G3 at s4 eT MG3 ⊢
  obtain ⟨dx3, ho3⟩ := MG3.o
  obtain ⟨ns, hns, hnsA⟩ := id MG3.n
  have hnl := ats_len hnsA
  rw [List.length_map] at hnl
  refine ⟨_, rfl, _, rfl, p.mo, CM, dx3, _, _, rfl, ho3, T.cl, T.n_entered, fM_entered .., p.na, ns, rfl, .inl (SqL.of hns), _, rfl, p.mo, CM, dx3, _, _, rfl, ho3, T.cl, T.n_collections, fM_collections .., by show 4 ≤ sizeLine; decide, fun t ht => ?_⟩
  have s5 := same_new ht (.tup [.ref te, sv, .int (ns.length : Int), .int 0])
  have s345 := sameT s3 (sameT s4 s5)
  refine q _ _ (sameT (new2 kG) s345) ⟨t, te, sv, es, rfl, ?_, s5 _ _ eT, hesA.keep (fr_same (sameT s4 s5)), ?_⟩
  · rw [upd_same, hnl]
  · split
    · rename_i h
      rw [if_pos h] at hsv
      exact hsv.keep (fr_same (sameT s4 s5))
    · rename_i h
      rw [if_neg h] at hsv
      exact hsv.keep (sameT s4 s5)
end
end Toy

set_option Elab.async false
set_option linter.all false
set_option maxRecDepth 100000
set_option maxHeartbeats 4000000
/-! Part Q: d.get(key, other) of a written dict; things whose words a collection renews. -/
namespace Toy
open PySem PySem.Spec PyProof.Rows L2
/-- d.get(key, other), d a dict of the module with text keys -/
def tKGet2 (K : PySem.W.Frag) (d : Addr) (td ty tx : TE) : TE := fun σ H Q => td σ H fun x H1 => x = .ref d ∧ ty σ H1 fun y H2 => tx σ H2 fun o H3 => ∃ (z : Str) (r : Option Value) (v0 : V), y = .str z ∧ PySem.W.nsIn K d z = some r ∧ (∀ u, r = some u → RelV v0 u) ∧ (r = none → v0 = o) ∧ Q v0 H3
section
variable {X : Cx} {o e f : Expr} {apos cpos : Pos} {td ty tx : TE} {d : Addr} {es : Array DictEntry} {n : Nat}
theorem pe_kget2 (D : KDict X.K X.w d es n) (ho : PE X o td) (he : PE X e ty) (hf : PE X f tx) (m : M2 X o "get" apos e f cpos) : PE X (.Call (.Attribute o "get" apos) [e, f] [] cpos) (tKGet2 X.K d td ty tx) := by
  refine ⟨fun pins s σ H Q I h => ?_⟩
  refine wpAny_Call_method m.base m.few m.line PySem.F.plainAttrs_dict PySem.F.slot_dict_get PySem.F.type_dict_get (thn (ho.run pins s σ H _ I h) fun u s1 ⟨x, H1, I1, rx, ex, q1⟩ => ?_)
  subst ex
  obtain rfl : u = Value.ref d := rx
  refine ⟨kd_type D I1, fun b q => ?_, ?_⟩
  · cases q
    obtain ⟨ob, h1, h2⟩ : ∃ ob, s1.heap.get? d = some ob ∧ ob.dict = none := ⟨_, I1.kIn d _ D.at_, rfl⟩
    exact ⟨ob, h1, h2⟩
  rw [m.trees]
  refine Calls.callWith_builtin rfl (Calls.evalArgs_plain (Calls.spliced_cons (thn (he.run pins s1 σ H1 _ I1 q1) fun iv s2 ⟨y, H2, I2, ry, q2⟩ => Calls.spliced_cons (thn (hf.run pins s2 σ H2 _ I2 q2) fun dv s3 ⟨o', H3, I3, ro, z, r, v0, ey, en, rv1, rv2, q3⟩ => Calls.spliced_nil ?_))))
  subst ey
  obtain ⟨t, rfl⟩ := ry
  refine call_meetsIn PySem.F.slot_dict_get (kd_type D I3) PySem.F.entry_dict_get (PySem.F.args_dict_get_3 _ _ _) (meets_dict_get_default (strKind X.prog X.w) d (PySem.strKind_is X.prog X.w z t) D.low dv) ⟨_, PySem.W.mapOf_K (prog := X.prog) I3.kIn D.at_ D.lit, ?_⟩
  rw [PySem.W.find_K D.at_ en]
  refine ⟨v0, H3, I3.tok _, ?_, q3⟩
  cases r with
  | none => rw [rv2 rfl]; exact ro
  | some u => exact rv1 u rfl
end
end Toy
namespace Toy
open PySem L2
/-! ### things whose words a collection renews -/
inductive Wds
  | none
  | words (ws : List Int)
  | word (w : Int)
  | addr (a : Int)
def Wds.D : Wds → List Dd
  | .none => []
  | .words ws => [wsD ws]
  | .word w => [.int w]
  | .addr a => [.int a]
def Wds.all : Wds → List Int
  | .none => []
  | .words ws => ws
  | .word w => [w]
  | .addr a => [2 * a]
def Wds.kind : Wds → Str
  | .none => "none"
  | .words _ => "words"
  | .word _ => "word"
  | .addr _ => "address"
def Wds.to : Wds → List Int → Wds
  | .none, _ => .none
  | .words _, vs => .words vs
  | .word _, vs => .word (vs.getD 0 0)
  | .addr _, vs => .addr (vs.getD 0 0 / 2)
def Wds.some : Wds → Bool
  | .none => false
  | _ => true
structure Th where
  z : Str
  pre : List Dd
  w : Wds
  post : List Dd
def Th.D (t : Th) : Dd := .tup (.str t.z :: (t.pre ++ t.w.D ++ t.post))
def Th.to (t : Th) (vs : List Int) : Th := { t with w := t.w.to vs }
/-- where the words are -/
def placesL : List (Str × Str × Int) := [("con", "words", 2), ("part", "words", 2), ("later", "words", 2), ("on", "word", 1), ("head", "word", 1), ("update", "address", 1), ("apply", "words", 1), ("case", "words", 3), ("pick", "words", 3), ("seq", "words", 2), ("right", "words", 3), ("eval", "words", 2), ("value", "word", 1), ("enter", "word", 1)]
structure Th.Ok (t : Th) : Prop where
  y : t.w.some = true → (t.z, t.w.kind, ((t.pre.length + 1 : Nat) : Int)) ∈ placesL
  n : t.w.some = false → t.z ∉ placesL.map (·.1) ∧ t.post = []
  l : t.pre.length ≤ 2
  k : t.post.length ≤ 1
  s : t.z.length ≤ 1000
theorem th_some {z : Str} {pre : List Dd} {w : Wds} {post : List Dd} (k : Str) (i : Int) (h : (z, k, i) ∈ placesL) (hw : w.some = true) (hk : w.kind = k) (hi : ((pre.length + 1 : Nat) : Int) = i) (hl : pre.length.ble 2 = true) (hp : post.length.ble 1 = true) (hs : z.length ≤ 1000) : (⟨z, pre, w, post⟩ : Th).Ok :=
  ⟨fun _ => by subst hk; subst hi; exact h, fun e => (by rw [show (⟨z, pre, w, post⟩ : Th).w.some = w.some from rfl, hw] at e; cases e), Nat.le_of_ble_eq_true hl, Nat.le_of_ble_eq_true hp, hs⟩
theorem th_none {z : Str} {pre : List Dd} (h : z ∉ placesL.map (·.1)) (hl : pre.length.ble 2 = true) (hs : z.length ≤ 1000) : (⟨z, pre, .none, []⟩ : Th).Ok :=
  ⟨fun e => (by cases e), fun _ => ⟨h, rfl⟩, Nat.le_of_ble_eq_true hl, Nat.zero_le _, hs⟩
def Cl.th : Cl → Th
  | .lat b ws s => ⟨"later", [b], .words ws, [.int s]⟩
  | .part i ws => ⟨"part", [.int i], .words ws, []⟩
  | .con t ws => ⟨"con", [.int t], .words ws, []⟩
  | .on w => ⟨"on", [], .word w, []⟩
  | .hole => ⟨"hole", [], .none, []⟩
def Cl.to : Cl → List Int → Cl
  | .lat b _ s, vs => .lat b vs s
  | .part i _, vs => .part i vs
  | .con t _, vs => .con t vs
  | .on _, vs => .on (vs.getD 0 0)
  | .hole, _ => .hole
theorem Cl.th_D (c : Cl) : c.th.D = c.D := by cases c <;> rfl
theorem Cl.th_to (c : Cl) (vs : List Int) : (c.to vs).th = c.th.to vs := by cases c <;> rfl
theorem Cl.th_ok (c : Cl) : c.th.Ok := by
  cases c with
  | lat b ws s => exact th_some "words" 2 (by decide +kernel) rfl rfl rfl rfl rfl (by decide +kernel)
  | part i ws => exact th_some "words" 2 (by decide +kernel) rfl rfl rfl rfl rfl (by decide +kernel)
  | con t ws => exact th_some "words" 2 (by decide +kernel) rfl rfl rfl rfl rfl (by decide +kernel)
  | on w => exact th_some "word" 1 (by decide +kernel) rfl rfl rfl rfl rfl (by decide +kernel)
  | hole => exact th_none (by decide +kernel) rfl (by decide +kernel)
def Fm.th : Fm → Th
  | .show => ⟨"show", [], .none, []⟩
  | .head w => ⟨"head", [], .word w, []⟩
  | .upd a => ⟨"update", [], .addr a, []⟩
  | .apply ws => ⟨"apply", [], .words ws, []⟩
  | .ch c rows d ws => ⟨chW c, [.tup rows, d], .words ws, []⟩
  | .seq b ws => ⟨"seq", [b], .words ws, []⟩
  | .right s o ws => ⟨"right", [.str s, o], .words ws, []⟩
  | .prim s n => ⟨"prim", [.str s, .int n], .none, []⟩
def Fm.to : Fm → List Int → Fm
  | .show, _ => .show
  | .head _, vs => .head (vs.getD 0 0)
  | .upd _, vs => .upd (vs.getD 0 0 / 2)
  | .apply _, vs => .apply vs
  | .ch c rows d _, vs => .ch c rows d vs
  | .seq b _, vs => .seq b vs
  | .right s o _, vs => .right s o vs
  | .prim s n, _ => .prim s n
theorem Fm.th_D (f : Fm) : f.th.D = f.D := by cases f <;> rfl
theorem Fm.th_to (f : Fm) (vs : List Int) : (f.to vs).th = f.th.to vs := by cases f <;> rfl
theorem Fm.th_ok (f : Fm) : f.th.Ok := by
  cases f with
  | «show» => exact th_none (by decide +kernel) rfl (by decide +kernel)
  | head w => exact th_some "word" 1 (by decide +kernel) rfl rfl rfl rfl rfl (by decide +kernel)
  | upd a => exact th_some "address" 1 (by decide +kernel) rfl rfl rfl rfl rfl (by decide +kernel)
  | apply ws => exact th_some "words" 1 (by decide +kernel) rfl rfl rfl rfl rfl (by decide +kernel)
  | ch c rows d ws =>
    cases c
    · exact th_some (z := "pick") "words" 3 (by decide +kernel) rfl rfl rfl rfl rfl (by decide +kernel)
    · exact th_some (z := "case") "words" 3 (by decide +kernel) rfl rfl rfl rfl rfl (by decide +kernel)
  | seq b ws => exact th_some "words" 2 (by decide +kernel) rfl rfl rfl rfl rfl (by decide +kernel)
  | right s o ws => exact th_some "words" 3 (by decide +kernel) rfl rfl rfl rfl rfl (by decide +kernel)
  | prim s n => exact th_none (by decide +kernel) rfl (by decide +kernel)
/-- what a machine does that has not stopped -/
def Nw.th : Nw → Th
  | .enter w => ⟨"enter", [], .word w, []⟩
  | .eval b ws => ⟨"eval", [b], .words ws, []⟩
  | .val w => ⟨"value", [], .word w, []⟩
  | .fin => ⟨"end", [], .none, []⟩
  | .fault s => ⟨"fault", [.str s], .none, []⟩
  | .loop => ⟨"loop", [], .none, []⟩
  | .stuck => ⟨"stuck", [], .none, []⟩
  | .full => ⟨"full", [], .none, []⟩
def Nw.to : Nw → List Int → Nw
  | .enter _, vs => .enter (vs.getD 0 0)
  | .eval b _, vs => .eval b vs
  | .val _, vs => .val (vs.getD 0 0)
  | n, _ => n
theorem Nw.th_D (n : Nw) : n.th.D = n.D := by cases n <;> rfl
theorem Nw.th_to (n : Nw) (vs : List Int) : (n.to vs).th = n.th.to vs := by cases n <;> rfl
theorem Nw.th_ok (n : Nw) : n.th.Ok := by
  cases n with
  | enter w => exact th_some "word" 1 (by decide +kernel) rfl rfl rfl rfl rfl (by decide +kernel)
  | eval b ws => exact th_some "words" 2 (by decide +kernel) rfl rfl rfl rfl rfl (by decide +kernel)
  | val w => exact th_some "word" 1 (by decide +kernel) rfl rfl rfl rfl rfl (by decide +kernel)
  | fin => exact th_none (by decide +kernel) rfl (by decide +kernel)
  | fault s => exact th_none (by decide +kernel) rfl (by decide +kernel)
  | loop => exact th_none (by decide +kernel) rfl (by decide +kernel)
  | stuck => exact th_none (by decide +kernel) rfl (by decide +kernel)
  | full => exact th_none (by decide +kernel) rfl (by decide +kernel)
def Cl.ws (c : Cl) : List Int := c.th.w.all
def Fm.ws (f : Fm) : List Int := f.th.w.all
def Nw.ws (n : Nw) : List Int := n.th.w.all
theorem Nw.at_of {K : PySem.W.Frag} {H : Hp} {n : Nw} {v : V} (h : NwAt K H n v) (hr : n.run = true) : n.th.D.At F0 H v := by
  rw [Nw.th_D]
  cases n with
  | enter w => exact h
  | eval b ws => exact h
  | val w => exact h
  | _ => cases hr
theorem Nw.at_to {K : PySem.W.Frag} {H : Hp} {n : Nw} {vs : List Int} {v : V} (h : (n.th.to vs).D.At F0 H v) (hr : n.run = true) : NwAt K H (n.to vs) v := by
  rw [← Nw.th_to, Nw.th_D] at h
  cases n with
  | enter w => exact h
  | eval b ws => exact h
  | val w => exact h
  | _ => cases hr
end Toy

set_option Elab.async false
set_option linter.all false
set_option maxRecDepth 100000
set_option maxHeartbeats 4000000
/-! Part R: the words in a thing; the roots. -/
namespace Toy
open PySem L2
open PyProof.Rows (envOfC)
structure TxtPl (w : World) (K : PySem.W.Frag) (mg : Str → Option Value) (aP aN : Addr) (esP : Array DictEntry) (nP : Nat) : Prop where
  kP : KDict K w aP esP nP
  gPLACES : ∃ u, mg "PLACES" = some u ∧ RelV (.ref aP) u
  gNO : ∃ u, mg "NO_PLACE" = some u ∧ RelV (.ref aN) u
  no : ∀ H : Hp, SqT K H aN [.str "none", .int 0]
  plIn : ∀ z k i, (z, k, i) ∈ placesL → ∃ a, PySem.W.nsIn K aP z = some (some (.ref a)) ∧ ∀ H : Hp, SqT K H a [.str k, .int i]
  plOut : ∀ z, z ∉ placesL.map (·.1) → PySem.W.nsIn K aP z = some none
  zlist : mg "list" = none
  ztuple : mg "tuple" = none
  zlen : mg "len" = none
  zrange : mg "range" = none
/-- the place of a thing's words -/
def Th.ix (t : Th) : Int := if t.w.some = true then ((t.pre.length + 1 : Nat) : Int) else 0
theorem Th.place {w : World} {K : PySem.W.Frag} {mg : Str → Option Value} {aP aN : Addr} {esP : Array DictEntry} {nP : Nat} (T : TxtPl w K mg aP aN esP nP) {t : Th} (h : t.Ok) : ∃ (r : Option Value) (v0 : V) (b : Addr), PySem.W.nsIn K aP t.z = some r ∧ (∀ u, r = some u → RelV v0 u) ∧ (r = none → v0 = .ref aN) ∧ v0 = .ref b ∧ ∀ H : Hp, SqT K H b [.str t.w.kind, .int t.ix] := by
  unfold Th.ix
  cases hs : t.w.some with
  | true =>
    obtain ⟨a, h1, h2⟩ := T.plIn _ _ _ (h.y hs)
    exact ⟨_, .ref a, a, h1, fun u e => (by cases e; rfl), fun e => (by cases e), rfl, h2⟩
  | false =>
    refine ⟨_, .ref aN, aN, T.plOut _ (h.n hs).1, fun u e => (by cases e), fun _ => rfl, rfl, fun H => ?_⟩
    have : t.w.kind = "none" := by
      revert hs
      cases t.w <;> intro hs <;> first | rfl | cases hs
    rw [this]
    exact T.no H
theorem Th.at_ix {H : Hp} {t : Th} {ys : List V} {X : Dd} (hs : t.w.some = true) (hw : t.w.D = [X]) (h : Dd.Ats F0 H (t.pre ++ t.w.D ++ t.post) ys) : ∃ x, atI (.str t.z :: ys) t.ix = some x ∧ X.At F0 H x := by
  have hg : (t.pre ++ t.w.D ++ t.post)[t.pre.length]? = some X := by
    rw [hw, List.append_assoc, List.getElem?_append_right (Nat.le_refl _), Nat.sub_self]
    rfl
  obtain ⟨x, h1, h2⟩ := ats_getI h hg
  refine ⟨x, ?_, h2⟩
  unfold Th.ix
  rw [if_pos hs]
  exact atI_nat (j := t.pre.length + 1) h1
section
variable {P : Program} {w : World} {K : PySem.W.Frag} {mg : Str → Option Value} {base : Heap} {aP aN : Addr} {esP : Array DictEntry} {nP : Nat}
abbrev sWordsIn : Stmt := topS 8
theorem scWordsIn : FnScope ["thing", "kind", "index"] ["thing"] (defScope sWordsIn) := ⟨rfl, rfl, rfl, by decide +kernel, rfl, by decide +kernel, by decide +kernel⟩
def spWordsIn : Sp := fun vs H Q _ => ∃ (v : V) (t : Th), vs = [v] ∧ t.Ok ∧ t.D.At F0 H v ∧ ∀ (a : Addr) (H' : Hp), Same H H' → H a = none → H' a = some (.lst (t.w.all.map V.int)) → Q (.ref a) H'
theorem c_wordsin {f : Addr} {fd : FuncData} (T : TxtPl w K mg aP aN esP nP) (F : Fun K "_words_in" "_words_in" sWordsIn f fd) (b : Binds K fd ["thing"] []) (hm : mg "_words_in" = some (.ref f)) : C8.Cal P w K mg base 1 "_words_in" spWordsIn [] := by
  refine cal_of F hm b scWordsIn (fun vs H Q E h => ?_) (fun cdv A outer s H vs Q E hr h => ?_)
  · obtain ⟨v, t, rfl, _⟩ := h
    rfl
  obtain ⟨v, t, rfl, hok, hat, q⟩ := h
  refine ⟨_, (pss_cons (ps_asg (pe_kget2 T.kP (C8.pe_gc rfl T.gPLACES) (pe_ix ix_tup (pv 0) pe_int (fun _ _ => rfl)) (C8.pe_gc rfl T.gNO) ⟨rfl, rfl, rfl, rfl⟩) (pg_tup rfl (pgs_cons (pg_name (i := 1) scWordsIn.nd rfl (Or.inl rfl)) (pgs_cons (pg_name (i := 2) scWordsIn.nd rfl (Or.inl rfl)) pgs_nil))))
    (pss_cons (ps_if (pt_cmpR op_eq (pv 1) pe_str (nomark _))
      (pss_one (ps_ret (pe_callTy call_list_of rfl T.zlist boot_list (pa_cons (pe_ix ix_tup (pv 0) (pv 2) (fun _ _ => rfl)) pa_nil))))
      pss_nil)
    (pss_cons (ps_if (pt_cmpR op_eq (pv 1) pe_str (nomark _))
      (pss_one (ps_ret (pe_lst pa_nil)))
      pss_nil)
    (pss_one (ps_ret (pe_lst (pa_cons (pe_ifExp (pt_cmpR op_eq (pv 1) pe_str (nomark _)) (pe_ix ix_tup (pv 0) (pv 2) (fun _ _ => rfl)) (pe_op op_mul pe_int (pe_ix ix_tup (pv 0) (pv 2) (fun _ _ => rfl)))) pa_nil))))))), ?_⟩
  obtain ⟨a, ys, rfl, ha, hs⟩ := head_at hat
  obtain ⟨r, v0, b', hns, h1, h2, rfl, hsq⟩ := Th.place T hok
  refine ⟨rfl, _, rfl, a, _, 0, _, rfl, rfl, SqT.of ha, at0 _ _, t.z, r, _, rfl, hns, h1, h2, ?_⟩
  refine ⟨b', _, rfl, hsq H, rfl, _, _, rfl, _, _, rfl, rfl, ?_⟩
  have kd : ∀ {z : Str}, t.w.kind ≠ z → decide (V.str t.w.kind = V.str z) = false := fun h => wne h
  refine ⟨_, rfl, rfl, _, rfl, ?_⟩
  cases hw : t.w with
  | words ws =>
    obtain ⟨x, hx, hax⟩ := Th.at_ix (by rw [hw]; rfl) (by rw [hw]; rfl) hs
    obtain ⟨c, rfl, hc⟩ := ws_at hax
    refine iteT ⟨_, rfl, _, rfl, a, _, _, _, rfl, rfl, SqT.of ha, hx, c, _, rfl, .inr (SqT.of hc), fun l hl => ?_⟩
    refine q l _ (same_new hl _) hl ?_
    rw [upd_same, hw]
    rfl
  | none =>
    refine iteF ?_
    refine ⟨_, rfl, rfl, _, rfl, ?_⟩
    refine iteT ⟨by show 0 ≤ sizeLine; decide, fun l hl => ?_⟩
    refine q l _ (same_new hl _) hl ?_
    rw [upd_same, hw]
    rfl
  | word w =>
    obtain ⟨x, hx, hax⟩ := Th.at_ix (X := .int w) (by rw [hw]; rfl) (by rw [hw]; rfl) hs
    cases hax
    refine iteF ?_
    refine ⟨_, rfl, rfl, _, rfl, ?_⟩
    refine iteF ?_
    refine ⟨_, rfl, rfl, _, rfl, ?_⟩
    refine iteT ⟨_, rfl, _, rfl, a, _, _, _, rfl, rfl, SqT.of ha, hx, by show 1 ≤ sizeLine; decide, fun l hl => ?_⟩
    refine q l _ (same_new hl _) hl ?_
    rw [upd_same, hw]
    rfl
  | addr w =>
    obtain ⟨x, hx, hax⟩ := Th.at_ix (X := .int w) (by rw [hw]; rfl) (by rw [hw]; rfl) hs
    cases hax
    refine iteF ?_
    refine ⟨_, rfl, rfl, _, rfl, ?_⟩
    refine iteF ?_
    refine ⟨_, rfl, rfl, _, rfl, ?_⟩
    refine iteF ⟨_, rfl, _, rfl, a, _, _, _, rfl, rfl, SqT.of ha, hx, _, _, rfl, rfl, .inl ⟨by decide, by decide⟩, by show 1 ≤ sizeLine; decide, fun l hl => ?_⟩
    refine q l _ (same_new hl _) hl ?_
    rw [upd_same, hw]
    rfl
abbrev sRoots : Stmt := topS 5
theorem scRoots : FnScope ["global_count", "stack", "now", "words", "thing", "address"] ["global_count", "stack", "now"] (defScope sRoots) := ⟨rfl, rfl, rfl, by decide +kernel, rfl, by decide +kernel, by decide +kernel⟩
/-- the words of frames -/
def stkWs (l : List Fm) : List Int := l.flatMap Fm.ws
def gcWs (gc : Nat) : List Int := (List.range gc).map fun (k : Nat) => 2 * (k : Int)
def spRoots (K : PySem.W.Frag) : Sp := fun vs H Q _ => ∃ (gc : Nat) (sa : Addr) (nv : V) (stk : List Fm) (n : Nw), vs = [.int (gc : Int), .ref sa, nv] ∧ gc ≤ 1000 ∧ rAt H sa (stk.map Fm.D) ∧ NwAt K H n nv ∧ n.run = true ∧ stk.length ≤ 90000 ∧ (gcWs gc ++ stkWs stk ++ n.ws).length ≤ 16000000 ∧ ∀ (a : Addr) (H' : Hp), Same H H' → H a = none → H' a = some (.lst ((gcWs gc ++ stkWs stk ++ n.ws).map V.int)) → Q (.ref a) H'
theorem c_roots {f : Addr} {fd : FuncData} (T : TxtPl w K mg aP aN esP nP) (c_words_in : C8.Cal P w K mg base 1 "_words_in" spWordsIn []) (F : Fun K "roots" "roots" sRoots f fd) (b : Binds K fd ["global_count", "stack", "now"] []) (hm : mg "roots" = some (.ref f)) : C8.Cal P w K mg base 2 "roots" (spRoots K) [] := by
  refine cal_of F hm b scRoots (fun vs H Q E h => ?_) (fun cdv A outer s H vs Q E hr h => ?_)
  · obtain ⟨gc, sa, nv, stk, n, rfl, _⟩ := h
    rfl
  obtain ⟨gc, sa, nv, stk, n, rfl, hgc, ⟨xs, hsa, hsx⟩, hn, hrun, hsl, hlen, q⟩ := h
  have hu := hu_of hr
  have hxl := ats_len hsx
  rw [List.length_map] at hxl
  refine ⟨_, (pss_cons (ps_setLc (i := 3) (own := [("address", 5)]) (g := gName 5) (tt := tYes) rfl scRoots.nd rfl rfl (sw_true rfl rfl rfl (by decide +kernel)) (pi_range1 rfl T.zrange (pa_cons (pv 0) pa_nil)) (blkOk_by (own := [("address", 5)]) (N := ["global_count", "stack", "now", "words", "thing", "address"]) (sc := defScope sRoots) (by decide +kernel)) (fun _ _ _ _ _ => (pg_name (i := 5) scRoots.nd rfl (Or.inl rfl))) (fun _ _ _ _ _ => pts_nil) (fun _ _ _ _ _ => (pe_op op_mul pe_int (pv 5))))
    (pss_cons (ps_for PassesOwn.never rfl (pi_list (pe_lst (StX.pa_star (pv 1) (pa_cons (pv 2) pa_nil)))) (pg_name (i := 4) scRoots.nd rfl (Or.inl rfl))
      (pss_one (ps_expr (pe_bm PySem.F.plainAttrs_list PySem.F.slot_list_extend PySem.F.type_list_extend mt_extend (pv 3) (pa_cons (C8.pe_c c_words_in hr (by decide) rfl (pa_cons (pv 4) pa_nil)) pa_nil)))))
    (pss_one (ps_ret (pv 3))))), ?_⟩
  refine ⟨_, rfl, (gc : Int), rfl, by omega, by omega, fun D hD => ?_⟩
  refine lc_range (Pv := fun i G => Same H G ∧ G D = some (.lst ((gcWs i).map V.int))) ⟨same_new hD _, upd_same⟩ ?_ ?_
  · rintro i G hi ⟨sG, eD⟩
    have hi2 : i < gc := by simpa using hi
    refine ⟨rfl, ?_⟩
    refine tYes_if ?_
    refine ⟨_, rfl, _, _, rfl, rfl, .inl ⟨by decide, by decide⟩, _, eD, by unfold gcWs; rw [List.length_map, List.length_map, List.length_range]; exact szl (by omega), same_upd hD sG _, ?_⟩
    rw [upd_same]
    unfold gcWs
    rw [List.range_succ, List.map_append, List.map_append, Int.zero_add]
    rfl
  rintro G ⟨s1, e1⟩
  rw [Int.toNat_natCast] at e1
  show gName 3 (V.ref D) _ _ _
  have hsa1 := s1 _ _ hsa
  refine ⟨_, rfl, sa, xs, rfl, .inr (SqL.of hsa1), _, rfl, by rw [List.length_append]; show xs.length + 1 ≤ _; have := szl (n := 90002) (by decide); omega, fun La hLa => ?_⟩
  have s2 := same_new hLa (.lst (xs ++ [nv]))
  have eL : upd G La (.lst (xs ++ [nv])) La = some (.lst (xs ++ [nv])) := upd_same
  have e2 := s2 _ _ e1
  have s02 := sameT s1 s2
  have nDL : D ≠ La := fun z => by rw [← z, e1] at hLa; cases hLa
  have hn2 := hn.keep s02
  have hsx2 := hsx.keep (fr_same (B := F0) s02)
  show ∃ _, _
  generalize upd G La (.lst (xs ++ [nv])) = G2 at s2 eL e2 s02 hn2 hsx2 ⊢
  have hths : ∀ t ∈ stk.map Fm.th ++ [n.th], t.Ok := fun t ht => by
    rcases List.mem_append.mp ht with h | h
    · obtain ⟨f, _, rfl⟩ := List.mem_map.mp h
      exact f.th_ok
    · rw [List.mem_singleton.mp h]
      exact n.th_ok
  have hA : Dd.Ats F0 G2 ((stk.map Fm.th ++ [n.th]).map Th.D) (xs ++ [nv]) := by
    rw [List.map_append, List.map_map, show Th.D ∘ Fm.th = Fm.D from funext Fm.th_D]
    exact ats_app hsx2 (ats_one (Nw.at_of hn2 hrun))
  have hW : (stk.map Fm.th ++ [n.th]).flatMap (fun t => t.w.all) = stkWs stk ++ n.ws := by
    rw [List.flatMap_append, List.flatMap_map]
    show stkWs stk ++ (n.th.w.all ++ []) = _
    rw [List.append_nil]
    rfl
  generalize stk.map Fm.th ++ [n.th] = ths at hths hA hW
  have hlen2 : (gcWs gc ++ ths.flatMap fun t => t.w.all).length ≤ 16000000 := by rw [hW, ← List.append_assoc]; exact hlen
  have hal := ats_len hA
  rw [List.length_map] at hal
  refine ⟨La, rfl, ⟨_, SqL.of eL⟩, for_list (a := La) (xs := xs ++ [nv]) (fun i st G => ∃ (v4 v5 : Option V), st = [some (.int (gc : Int)), some (.ref sa), some nv, some (.ref D), v4, v5] ∧ (∀ b u, b ≠ D → G2 b = some u → G b = some u) ∧ G D = some (.lst ((gcWs gc ++ (ths.take i).flatMap fun t => t.w.all).map V.int)))
    ⟨none, none, rfl, fun _ _ _ e => e, by rw [List.take_zero, List.flatMap_nil, List.append_nil]; exact e2⟩ (fun i st G _ ⟨_, _, _, k, _⟩ => SqL.of (k _ _ (Ne.symm nDL) eL)) ?_ ?_⟩
  · rintro i x st G hx ⟨v4, v5, rfl, kG, eD⟩
    obtain ⟨k, hk, ka⟩ := ats_get hA hx
    rw [List.getElem?_map] at hk
    obtain ⟨t, ht, rfl⟩ := Option.map_eq_some_iff.mp hk
    have fr : Fr F0 G2 G := ⟨fun a us e => kG _ _ (fun z => by rw [z, e2] at e; cases e) e, fun _ _ z _ => z.elim⟩
    have hpre : (gcWs gc ++ (ths.take (i + 1)).flatMap fun t => t.w.all).length ≤ 16000000 := by
      have h1 : ths.flatMap (fun t => t.w.all) = (ths.take (i + 1)).flatMap (fun t => t.w.all) ++ (ths.drop (i + 1)).flatMap (fun t => t.w.all) := by rw [← List.flatMap_append, List.take_append_drop]
      rw [h1, List.length_append, List.length_append] at hlen2
      rw [List.length_append]
      omega
    have hsucc : (ths.take (i + 1)).flatMap (fun t => t.w.all) = (ths.take i).flatMap (fun t => t.w.all) ++ t.w.all := by
      rw [List.take_add_one, ht, List.flatMap_append]
      show _ ++ (t.w.all ++ []) = _
      rw [List.append_nil]
    rw [hsucc, ← List.append_assoc, List.length_append] at hpre
    refine ⟨_, rfl, .inl ⟨rfl, _, SqL.of eD⟩, _, rfl, x, t, rfl, hths t (List.mem_of_getElem? ht), ka.keep fr, fun b' H' s' hb' eb' => ?_⟩
    have nDb : D ≠ b' := fun z => by rw [← z, eD] at hb'; cases hb'
    refine ⟨D, b', _, _, rfl, rfl, s' _ _ eD, eb', by rw [List.length_map, List.length_map]; exact Nat.le_of_lt (Nat.lt_of_le_of_lt hpre (by rw [sizeLine_eq]; decide)), _, _, rfl, fun c u nc e => by rw [upd_ne nc]; exact s' _ _ (kG _ _ nc e), ?_⟩
    rw [upd_same, hsucc, ← List.map_append, ← List.append_assoc]
  · rintro st G ⟨v4, v5, rfl, kG, eD⟩
    rw [hal, List.take_length, hW, ← List.append_assoc] at eD
    refine ⟨_, rfl, q D _ (fun b u e => ?_) hD eD⟩
    exact kG _ _ (ne_of_none e hD) (s02 _ _ e)
end
end Toy

set_option Elab.async false
set_option linter.all false
set_option maxRecDepth 100000
set_option maxHeartbeats 4000000
/-! Part S: the class Collection. -/
namespace Toy
open PySem L2
open PyProof.Rows (envOfC)
/-! ### words, in plain Lean -/
/-- a word past a cell that leads on -/
def resW (cs : List Cl) (w : Int) : Int := if w % 2 = 0 then match cs[(w / 2).toNat]? with
  | some (.on v) => v
  | _ => w else w
/-- a word that leads somewhere, or is a number -/
def WIn (L : Nat) (w : Int) : Prop := w % 2 = 1 ∨ ∃ a : Nat, w = 2 * (a : Int) ∧ a < L
/-- what leads on leads to no such cell -/
def NotOn (cs : List Cl) (w : Int) : Prop := ∀ v : Int, w % 2 = 0 → cs[(w / 2).toNat]? ≠ some (.on v)
def OnOk (cs : List Cl) : Prop := ∀ (a : Nat) (v : Int), cs[a]? = some (.on v) → WIn cs.length v ∧ NotOn cs v
structure MetOk (L : Nat) (met : List Nat) : Prop where
  d : met.Nodup
  l : ∀ a ∈ met, a < L
theorem nodup_le : ∀ (n : Nat) {l : List Nat}, l.Nodup → (∀ a ∈ l, a < n) → l.length ≤ n
  | 0, l, _, h => by
    cases l with
    | nil => exact Nat.le_refl _
    | cons a l => exact absurd (h a (List.mem_cons_self ..)) (Nat.not_lt_zero _)
  | n + 1, l, d, h => by
    have h1 : ∀ a ∈ l.erase n, a < n := fun a ha => by
      have h2 := h a (List.mem_of_mem_erase ha)
      have h3 : a ≠ n := fun e => by rw [e] at ha; exact (List.Nodup.mem_erase_iff d).mp ha |>.1 rfl
      omega
    have h2 := nodup_le n (d.erase n) h1
    by_cases hm : n ∈ l
    · rw [List.length_erase_of_mem hm] at h2
      omega
    · rw [List.erase_of_not_mem hm] at h2
      omega
def Grw (met met' : List Nat) : Prop := ∃ l, met' = met ++ l
theorem Grw.refl {met : List Nat} : Grw met met := ⟨[], (List.append_nil _).symm⟩
theorem Grw.trans {a b c : List Nat} (h : Grw a b) (k : Grw b c) : Grw a c := by
  obtain ⟨l, rfl⟩ := h
  obtain ⟨l', rfl⟩ := k
  exact ⟨l ++ l', List.append_assoc ..⟩
theorem Grw.get {a b : List Nat} (h : Grw a b) {i x : Nat} (e : a[i]? = some x) : b[i]? = some x := by
  obtain ⟨l, rfl⟩ := h
  rw [List.getElem?_append_left (List.getElem?_eq_some_iff.mp e).1]
  exact e
theorem Grw.len {a b : List Nat} (h : Grw a b) : a.length ≤ b.length := by
  obtain ⟨l, rfl⟩ := h
  rw [List.length_append]
  omega
/-- what a word becomes -/
def RW (cs : List Cl) (met : List Nat) (w w' : Int) : Prop := (resW cs w % 2 = 1 ∧ w' = resW cs w) ∨ ∃ a i : Nat, resW cs w = 2 * (a : Int) ∧ met[i]? = some a ∧ w' = 2 * (i : Int)
theorem RW.grw {cs : List Cl} {met met' : List Nat} {w w' : Int} (h : RW cs met w w') (g : Grw met met') : RW cs met' w w' := h.imp id fun ⟨a, i, h1, h2, h3⟩ => ⟨a, i, h1, g.get h2, h3⟩
inductive RWs (cs : List Cl) (met : List Nat) : List Int → List Int → Prop
  | nil : RWs cs met [] []
  | cons {w w' : Int} {ws ws' : List Int} : RW cs met w w' → RWs cs met ws ws' → RWs cs met (w :: ws) (w' :: ws')
theorem RWs.grw {cs : List Cl} {met met' : List Nat} {ws ws' : List Int} (h : RWs cs met ws ws') (g : Grw met met') : RWs cs met' ws ws' := by
  induction h with
  | nil => exact .nil
  | cons h _ ih => exact .cons (h.grw g) ih
theorem RWs.snoc {cs : List Cl} {met : List Nat} {ws ws' : List Int} {w w' : Int} (h : RWs cs met ws ws') (k : RW cs met w w') : RWs cs met (ws ++ [w]) (ws' ++ [w']) := by
  induction h with
  | nil => exact .cons k .nil
  | cons h _ ih => exact .cons h ih
theorem RWs.len {cs : List Cl} {met : List Nat} {ws ws' : List Int} (h : RWs cs met ws ws') : ws'.length = ws.length := by
  induction h with
  | nil => rfl
  | cons _ _ ih => rw [List.length_cons, List.length_cons, ih]
theorem resW_cases (cs : List Cl) (w : Int) : (∃ v : Int, w % 2 = 0 ∧ cs[(w / 2).toNat]? = some (.on v) ∧ resW cs w = v) ∨ (resW cs w = w ∧ NotOn cs w) := by
  unfold resW
  by_cases h : w % 2 = 0
  · rw [if_pos h]
    cases e : cs[(w / 2).toNat]? with
    | none => exact .inr ⟨rfl, fun v _ z => by rw [e] at z; cases z⟩
    | some c =>
      cases c with
      | on v => exact .inl ⟨v, h, rfl, rfl⟩
      | lat b ws s => exact .inr ⟨rfl, fun v _ z => by rw [e] at z; cases z⟩
      | part i ws => exact .inr ⟨rfl, fun v _ z => by rw [e] at z; cases z⟩
      | con t ws => exact .inr ⟨rfl, fun v _ z => by rw [e] at z; cases z⟩
      | hole => exact .inr ⟨rfl, fun v _ z => by rw [e] at z; cases z⟩
  · rw [if_neg h]
    exact .inr ⟨rfl, fun v z => absurd z h⟩
theorem resW_self {cs : List Cl} {w : Int} (h : NotOn cs w) : resW cs w = w := by
  rcases resW_cases cs w with ⟨v, e1, e2, _⟩ | ⟨e, _⟩
  · exact absurd e2 (h v e1)
  · exact e
theorem resW_in {cs : List Cl} (h : OnOk cs) {w : Int} (hw : WIn cs.length w) : WIn cs.length (resW cs w) ∧ NotOn cs (resW cs w) := by
  rcases resW_cases cs w with ⟨v, _, e, e2⟩ | ⟨e, n⟩
  · rw [e2]
    exact h _ _ e
  · rw [e]
    exact ⟨hw, n⟩
theorem resW_on {cs : List Cl} {a : Nat} {v : Int} (h : cs[a]? = some (.on v)) : resW cs (2 * (a : Int)) = v := by
  unfold resW
  rw [if_pos (by omega), show (2 * (a : Int) / 2).toNat = a by omega, h]
theorem notOn_of {cs : List Cl} {a : Nat} {c : Cl} (h : cs[a]? = some c) (n : ∀ v, c ≠ .on v) : NotOn cs (2 * (a : Int)) := fun v _ z => by
  rw [show (2 * (a : Int) / 2).toNat = a by omega, h] at z
  exact n v (Option.some.inj z)
/-! ### the dict of new addresses -/
def newK : Nat → List Nat → List (Key × V)
  | _, [] => []
  | i, a :: l => (Sum.inl (a : Int), .int (i : Int)) :: newK (i + 1) l
theorem newK_len : ∀ (l : List Nat) (i : Nat), (newK i l).length = l.length
  | [], _ => rfl
  | a :: l, i => by
    show (newK (i + 1) l).length + 1 = l.length + 1
    rw [newK_len l]
theorem newK_out {a : Nat} : ∀ {l : List Nat} {i : Nat}, a ∉ l → valV (newK i l) (Sum.inl (a : Int) : Key) = none
  | [], _, _ => rfl
  | b :: l, i, h => (valV_neg (p := (Sum.inl (b : Int), V.int (i : Int))) fun z => h (by have := Sum.inl.inj z; rw [show b = a by omega]; exact List.mem_cons_self ..)).trans (newK_out fun z => h (List.mem_cons_of_mem _ z))
theorem newK_get {a : Nat} : ∀ {l : List Nat} {i j : Nat}, l.Nodup → l[j]? = some a → valV (newK i l) (Sum.inl (a : Int) : Key) = some (.int ((i + j : Nat) : Int))
  | [], _, _, _, h => by simp at h
  | b :: l, i, j, d, h => by
    rw [List.nodup_cons] at d
    cases j with
    | zero =>
      cases h
      exact valV_pos (p := (Sum.inl (a : Int), V.int (i : Int))) rfl
    | succ j =>
      have h' : l[j]? = some a := h
      have hne : b ≠ a := fun z => d.1 (by rw [z]; exact List.mem_of_getElem? h')
      have := newK_get (i := i + 1) d.2 h'
      rw [show i + 1 + j = i + (j + 1) by omega] at this
      exact (valV_neg (p := (Sum.inl (b : Int), V.int (i : Int))) fun z => hne (by have := Sum.inl.inj z; omega)).trans this
theorem newK_app : ∀ (l : List Nat) (i a : Nat), newK i (l ++ [a]) = newK i l ++ [(Sum.inl (a : Int), .int ((i + l.length : Nat) : Int))]
  | [], i, a => rfl
  | b :: l, i, a => by
    show _ :: newK (i + 1) (l ++ [a]) = _ :: (newK (i + 1) l ++ _)
    rw [newK_app l, show i + 1 + l.length = i + (b :: l).length by rw [List.length_cons]; omega]
/-! ### how it stands -/
def fldC (cd ml nd : Addr) : List (Str × V) := [("cells", .ref cd), ("met", .ref ml), ("new_addresses", .ref nd)]
theorem fldC_cells (cd ml nd : Addr) : (fldC cd ml nd).lookup ("cells" : Str) = some (.ref cd) := by rfl
theorem fldC_met (cd ml nd : Addr) : (fldC cd ml nd).lookup ("met" : Str) = some (.ref ml) := by rfl
theorem fldC_new (cd ml nd : Addr) : (fldC cd ml nd).lookup ("new_addresses" : Str) = some (.ref nd) := by rfl
theorem fldC_no_word (cd ml nd : Addr) : (fldC cd ml nd).lookup ("new_word" : Str) = none := by rfl
theorem fldC_no_renewed (cd ml nd : Addr) : (fldC cd ml nd).lookup ("renewed" : Str) = none := by rfl
structure CPl where
  o : Addr
  cd : Addr
  ml : Addr
  nd : Addr
structure CoAt (C : Addr) (H : Hp) (p : CPl) (cs : List Cl) (met : List Nat) : Prop where
  o : ∃ dx, H p.o = some (.ins C dx (fldC p.cd p.ml p.nd))
  c : ∃ kvs, H p.cd = some (.dK kvs) ∧ CsAt H 0 cs kvs
  m : H p.ml = some (.lst (met.map fun a : Nat => V.int (a : Int)))
  n : H p.nd = some (.dK (newK 0 met))
  ne : p.cd ≠ p.nd
/-- all but what it keeps of its own stays -/
def KeepC (p : CPl) (H H' : Hp) : Prop := ∀ b u, b ≠ p.ml → b ≠ p.nd → H b = some u → H' b = some u
theorem KeepC.refl {p : CPl} {H : Hp} : KeepC p H H := fun _ _ _ _ e => e
theorem KeepC.same {p : CPl} {H H' : Hp} (s : Same H H') : KeepC p H H' := fun b u _ _ e => s b u e
theorem KeepC.trans {p : CPl} {H1 H2 H3 : Hp} (h : KeepC p H1 H2) (k : KeepC p H2 H3) : KeepC p H1 H3 := fun b u n1 n2 e => k b u n1 n2 (h b u n1 n2 e)
theorem CoAt.fr {C : Addr} {H H' : Hp} {p : CPl} {cs : List Cl} {met : List Nat} (h : CoAt C H p cs met) (k : KeepC p H H') : Fr F0 H H' :=
  ⟨fun a us e => k _ _ (fun z => by rw [z, h.m] at e; cases e) (fun z => by rw [z, h.n] at e; cases e) e, fun _ _ z _ => z.elim⟩
theorem CoAt.same {C : Addr} {H H' : Hp} {p : CPl} {cs : List Cl} {met : List Nat} (h : CoAt C H p cs met) (s : Same H H') : CoAt C H' p cs met := by
  obtain ⟨⟨dx, h1⟩, ⟨kvs, h2, h3⟩, h4, h5, h6⟩ := h
  exact ⟨⟨dx, s _ _ h1⟩, ⟨kvs, s _ _ h2, h3.keep (fr_same s)⟩, s _ _ h4, s _ _ h5, h6⟩
structure TxtCo (K : PySem.W.Frag) (mg : Str → Option Value) (C : Addr) : Prop where
  zlen : mg "len" = none
  zlist : mg "list" = none
  zrange : mg "range" = none
  ztuple : mg "tuple" = none
  cl : Cls K C
  nC : NoAttr K C "cells"
  nM : NoAttr K C "met"
  nN : NoAttr K C "new_addresses"
section
variable {P : Program} {w : World} {K : PySem.W.Frag} {mg : Str → Option Value} {base : Heap} {C : Addr}
abbrev sNewWord : Stmt := inClass (topS 7) 1
theorem scNewWord : FnScope ["self", "word", "_", "address"] ["self", "word"] (defScope sNewWord) := ⟨rfl, rfl, rfl, by decide +kernel, rfl, by decide +kernel, by decide +kernel⟩
def spNewWord (C : Addr) : Sp := fun vs H Q _ => ∃ (p : CPl) (cs : List Cl) (met : List Nat) (x : Int), vs = [.ref p.o, .int x] ∧ CoAt C H p cs met ∧ OnOk cs ∧ MetOk cs.length met ∧ WIn cs.length x ∧ cs.length ≤ 95000 ∧
  ∀ (met' : List Nat) (x' : Int) (H' : Hp), Grw met met' → MetOk cs.length met' → RW cs met' x x' → CoAt C H' p cs met' → KeepC p H H' → (∀ y, RW cs met x y → met' = met) → Q (.int x') H'
theorem c_newword {f : Addr} {fd : FuncData} (T : TxtCo K mg C) (me : Meth K C "new_word" f) (F : Fun K "new_word" "Collection.new_word" sNewWord f fd) (b : Binds K fd ["self", "word"] []) : C8.Met P w K mg base 1 C "new_word" (spNewWord C) [] := by
  refine met_of T.cl me F b scNewWord (fun vs H Q E h => ?_) (fun cdv A outer s H vs Q E hr h => ?_)
  · obtain ⟨p, cs, met, x, rfl, _⟩ := h
    rfl
  obtain ⟨p, cs, met, x, rfl, M, hon, hmet, hx, hl, q⟩ := h
  have hu := hu_of hr
  refine ⟨_, (pss_cons (ps_while PassesOwn.never (PW.pt (pw_and (pt_cmpR op_eq (pe_op op_mod (pv 1) pe_int) pe_int (nomark _)) (pw_and1 (pt_cmpR op_eq (pe_ix ix_tup (pe_dget hu (pe_fld (pv 0) rfl) (pe_op op_fdiv (pv 1) pe_int) (fun _ _ => rfl)) pe_int (fun _ _ => rfl)) pe_str (nomark _)))))
      (pss_one (ps_asg (pe_dget hu (pe_fld (pv 0) rfl) (pe_op op_fdiv (pv 1) pe_int) (fun _ _ => rfl)) (pg_tup rfl (pgs_cons (pg_name (i := 2) scNewWord.nd rfl (Or.inl rfl)) (pgs_cons (pg_name (i := 1) scNewWord.nd rfl (Or.inl rfl)) pgs_nil))))))
    (pss_cons (ps_if (pt_cmpR op_ne (pe_op op_mod (pv 1) pe_int) pe_int (nomark _))
      (pss_one (ps_ret (pv 1)))
      pss_nil)
    (pss_cons (ps_set (i := 3) scNewWord.nd rfl (Or.inl rfl) (pe_op op_fdiv (pv 1) pe_int))
    (pss_cons (ps_if (pt_cmp (pc_dnotin hu (pv 3) (pe_fld (pv 0) rfl)))
      (pss_cons (ps_dput hu (pe_fld (pv 0) rfl) (pv 3) (pe_callB call_len_seq rfl T.zlen PySem.boot_len (pa_cons (pe_fld (pv 0) rfl) pa_nil)) rfl)
    (pss_one (ps_expr (pe_bm PySem.F.plainAttrs_list PySem.F.slot_list_append PySem.F.type_list_append mt_append (pe_fld (pv 0) rfl) (pa_cons (pv 3) pa_nil)))))
      pss_nil)
    (pss_one (ps_ret (pe_op op_mul pe_int (pe_dget hu (pe_fld (pv 0) rfl) (pv 3) (fun _ _ => rfl))))))))), ?_⟩
  obtain ⟨dx, ho⟩ := id M.o
  obtain ⟨kvs, hcd, hkv⟩ := id M.c
  have cell : ∀ {a : Nat} {c : Cl}, cs[a]? = some c → ∃ v, DGet H p.cd (.int (2 * (a : Int) / 2)) (some v) ∧ c.D.At F0 H v := fun {a c} e => by
    obtain ⟨v, h1, h2⟩ := hkv.get e
    rw [Nat.zero_add] at h1
    refine ⟨v, ?_, h2⟩
    rw [show 2 * (a : Int) / 2 = (a : Int) by omega]
    exact h1 ▸ DGet.k (k := Sum.inl (a : Int)) hcd
  refine ⟨fun m σ G => G = H ∧ ∃ (v2 : Option V) (y : Int), σ = [some (.ref p.o), some (.int y), v2, none] ∧ WIn cs.length y ∧ resW cs y = resW cs x ∧ (m = 1 ∨ m = 0 ∧ NotOn cs y), ⟨1, rfl, none, x, rfl, hx, rfl, .inl rfl⟩, ?_⟩
  rintro m σ G ⟨eG, v2, y, rfl, hy, ey, hm⟩
  subst eG
  refine ⟨_, rfl, _, _, rfl, rfl, (by show (0 : Int) < 2; decide), rfl, _, rfl, ?_⟩
  show if decide (V.int (y % 2) = V.int 0) = true then _ else _
  rcases hy with ho1 | ⟨a, rfl, ha⟩
  · have e0 : resW cs y = y := resW_self fun v z => by omega
    rw [decide_eq_false (fun z => by have := V.int.inj z; omega)]
    refine iteF (iteF ?_)
    refine ⟨_, rfl, _, _, rfl, rfl, (by show (0 : Int) < 2; decide), rfl, _, rfl, ?_⟩
    show if (!decide (V.int (y % 2) = V.int 0)) = true then _ else _
    rw [decide_eq_false (fun z => by have := V.int.inj z; omega)]
    refine iteT ⟨_, rfl, ?_⟩
    exact q met y _ Grw.refl hmet (.inl ⟨by rw [← ey, e0]; exact ho1, by rw [← ey, e0]⟩) M KeepC.refl fun _ _ => rfl
  rw [decide_eq_true (show V.int (2 * (a : Int) % 2) = V.int 0 by rw [show 2 * (a : Int) % 2 = 0 by omega])]
  refine iteT ?_
  obtain ⟨c, hc⟩ : ∃ c, cs[a]? = some c := ⟨_, List.getElem?_eq_getElem ha⟩
  obtain ⟨v, hg, hat⟩ := cell hc
  obtain ⟨t, row, rfl, ht, hr0, _⟩ := sized_cell (K := K) hat
  refine ⟨_, rfl, p.o, C, dx, _, .ref p.cd, rfl, ho, T.cl, T.nC, fldC_cells .., _, rfl, _, _, rfl, rfl, ⟨by decide, by decide⟩, p.cd, _, rfl, hg, t, row, 0, _, rfl, rfl, SqT.of ht, hr0, rfl, _, rfl, ?_⟩
  show if decide (V.str c.word = V.str "on") = true then _ else _
  by_cases hon : ∃ u, c = .on u
  · obtain ⟨u, rfl⟩ := hon
    refine iteT ?_
    obtain ⟨a', xs, e', ha', hxs⟩ := hat
    cases e'
    rw [ht] at ha'
    cases ha'
    obtain ⟨y1, ys1, rfl, ⟨rfl, _⟩, y2, ys2, rfl, hy2, hy3⟩ := hxs
    cases hy2
    cases hy3
    have hm1 : m = 1 := by
      rcases hm with h | ⟨_, h⟩
      · exact h
      · exact absurd (by rw [show (2 * (a : Int) / 2).toNat = a by omega]; exact hc) (h u (by omega))
    subst hm1
    obtain ⟨hu1, hu2⟩ := hon _ _ hc
    refine ⟨fun σ' H' => H' = G ∧ ∃ v2 : Option V, σ' = [some (.ref p.o), some (.int u), v2, none], fun σ' H' ⟨e1, v3, e2⟩ => ⟨0, by decide, e1, v3, u, e2, hu1, ?_, .inr ⟨rfl, hu2⟩⟩, ?_⟩
    · rw [← ey, resW_on hc]
      exact resW_self hu2
    · exact ⟨_, rfl, p.o, C, dx, _, .ref p.cd, rfl, ho, T.cl, T.nC, fldC_cells .., _, rfl, _, _, rfl, rfl, ⟨by decide, by decide⟩, p.cd, _, rfl, hg, t, _, rfl, SqT.of ht, rfl, _, _, rfl, _, _, rfl, rfl, rfl, _, rfl⟩
  have hcw : c.word ≠ "on" := by
    cases c with
    | on u => exact absurd ⟨u, rfl⟩ hon
    | lat b ws s => show ("later" : Str) ≠ "on"; decide +kernel
    | part i ws => show ("part" : Str) ≠ "on"; decide +kernel
    | con t ws => show ("con" : Str) ≠ "on"; decide +kernel
    | hole => show ("hole" : Str) ≠ "on"; decide +kernel
  rw [wne hcw]
  refine iteF ?_
  have hno : NotOn cs (2 * (a : Int)) := notOn_of hc fun v e => hon ⟨v, e⟩
  have e0 := resW_self hno
  refine ⟨_, rfl, _, _, rfl, rfl, (by show (0 : Int) < 2; decide), rfl, _, rfl, ?_⟩
  show if (!decide (V.int (2 * (a : Int) % 2) = V.int 0)) = true then _ else _
  rw [decide_eq_true (show V.int (2 * (a : Int) % 2) = V.int 0 by rw [show 2 * (a : Int) % 2 = 0 by omega])]
  refine iteF ?_
  refine ⟨_, rfl, _, _, rfl, rfl, ⟨by decide, by decide⟩, ?_⟩
  show gName 3 (V.int (2 * (a : Int) / 2)) _ _ _
  rw [show 2 * (a : Int) / 2 = (a : Int) by omega]
  refine ⟨_, rfl, _, rfl, p.o, C, dx, _, .ref p.nd, rfl, ho, T.cl, T.nN, fldC_new .., p.nd, _, rfl, DGet.k (k := Sum.inl (a : Int)) M.n, _, rfl, ?_⟩
  by_cases hin : a ∈ met
  · obtain ⟨j, hj⟩ := List.getElem?_of_mem hin
    have hv := newK_get (i := 0) hmet.d hj
    rw [Nat.zero_add] at hv
    rw [hv]
    refine iteF ?_
    refine ⟨_, rfl, p.o, C, dx, _, .ref p.nd, rfl, ho, T.cl, T.nN, fldC_new .., _, rfl, p.nd, _, rfl, hv ▸ DGet.k (k := Sum.inl (a : Int)) M.n, _, _, rfl, rfl, .inl ⟨by decide, by decide⟩, ?_⟩
    exact q met _ _ Grw.refl hmet (.inr ⟨a, j, by rw [← ey, e0], hj, rfl⟩) M KeepC.refl fun _ _ => rfl
  · rw [newK_out hin]
    refine iteT ?_
    have no_nd : p.o ≠ p.nd := fun z => by have := M.n; rw [← z, ho] at this; cases this
    have no_ml : p.o ≠ p.ml := fun z => by have := M.m; rw [← z, ho] at this; cases this
    have nc_ml : p.cd ≠ p.ml := fun z => by have := M.m; rw [← z, hcd] at this; cases this
    have nd_ml : p.nd ≠ p.ml := fun z => by have := M.m; rw [← z, M.n] at this; cases this
    have hml : met.length ≤ cs.length := nodup_le _ hmet.d hmet.l
    refine ⟨_, rfl, p.o, C, dx, _, .ref p.ml, rfl, ho, T.cl, T.nM, fldC_met .., p.ml, _, rfl, .inl (SqL.of M.m), _, rfl, p.o, C, dx, _, .ref p.nd, rfl, ho, T.cl, T.nN, fldC_new .., _, rfl, p.nd, _, rfl, DPut.k (k := Sum.inl (a : Int)) M.n (by rw [newK_len]; exact szl (by omega)), ?_⟩
    rw [putK_new _ (newK_out hin), List.length_map, show met.length = 0 + met.length by omega, ← newK_app]
    have f1 := fr_upd (o := .dK (newK 0 (met ++ [a]))) M.n fun _ z => by cases z
    have ho1 : upd G p.nd (.dK (newK 0 (met ++ [a]))) p.o = _ := (upd_ne no_nd).trans ho
    have hm1 : upd G p.nd (.dK (newK 0 (met ++ [a]))) p.ml = _ := (upd_ne nd_ml.symm).trans M.m
    have hc1 : upd G p.nd (.dK (newK 0 (met ++ [a]))) p.cd = _ := (upd_ne M.ne).trans hcd
    have hn1 : upd G p.nd (.dK (newK 0 (met ++ [a]))) p.nd = some (.dK (newK 0 (met ++ [a]))) := upd_same
    have k1 : KeepC p G (upd G p.nd (.dK (newK 0 (met ++ [a])))) := fun b u _ n2 e => by rw [upd_ne n2]; exact e
    generalize upd G p.nd (.dK (newK 0 (met ++ [a]))) = G1 at f1 ho1 hm1 hc1 hn1 k1 ⊢
    refine ⟨_, rfl, p.o, C, dx, _, .ref p.ml, rfl, ho1, T.cl, T.nM, fldC_met .., .inl ⟨rfl, _, SqL.of hm1⟩, _, rfl, ?_⟩
    refine ⟨p.ml, _, _, rfl, rfl, hm1, by rw [List.length_map]; exact szl (by omega), ?_⟩
    have f2 := fr_upd (o := .lst ((met.map fun a : Nat => V.int (a : Int)) ++ [V.int (a : Int)])) hm1 fun _ z => by cases z
    have k2 : KeepC p G1 (upd G1 p.ml (.lst ((met.map fun a : Nat => V.int (a : Int)) ++ [V.int (a : Int)]))) := fun b u n1 _ e => by rw [upd_ne n1]; exact e
    have M2 : CoAt C (upd G1 p.ml (.lst ((met.map fun a : Nat => V.int (a : Int)) ++ [V.int (a : Int)]))) p cs (met ++ [a]) :=
      ⟨⟨dx, by rw [upd_ne no_ml]; exact ho1⟩, ⟨kvs, by rw [upd_ne nc_ml]; exact hc1, hkv.keep (f1.trans f2)⟩, by rw [upd_same, List.map_append]; rfl, by rw [upd_ne nd_ml]; exact hn1, M.ne⟩
    have hmet2 : MetOk cs.length (met ++ [a]) := ⟨List.nodup_append.mpr ⟨hmet.d, List.nodup_cons.mpr ⟨List.not_mem_nil, List.nodup_nil⟩, fun x hx y hy => by rw [List.mem_singleton.mp hy]; exact fun z => hin (z ▸ hx)⟩, fun x hx => by
      rcases List.mem_append.mp hx with h | h
      · exact hmet.l x h
      · rw [List.mem_singleton.mp h]; exact ha⟩
    have hget : (met ++ [a])[met.length]? = some a := by rw [List.getElem?_append_right (Nat.le_refl _), Nat.sub_self]; rfl
    have hv := newK_get (i := 0) hmet2.d hget
    rw [Nat.zero_add] at hv
    obtain ⟨dx2, ho2⟩ := M2.o
    refine ⟨_, rfl, p.o, C, dx2, _, .ref p.nd, rfl, ho2, T.cl, T.nN, fldC_new .., _, rfl, p.nd, _, rfl, hv ▸ DGet.k (k := Sum.inl (a : Int)) M2.n, _, _, rfl, rfl, .inl ⟨by decide, by decide⟩, ?_⟩
    refine q _ _ _ ⟨[a], rfl⟩ hmet2 (.inr ⟨a, met.length, by rw [← ey, e0], hget, rfl⟩) M2 (k1.trans k2) fun y hy => (?_ : False).elim
    rcases hy with ⟨h, _⟩ | ⟨a', j', h, h', _⟩
    · rw [← ey, e0] at h; omega
    · rw [← ey, e0] at h
      exact hin (by rw [show a = a' by omega]; exact List.mem_of_getElem? h')
end
end Toy

set_option Elab.async false
set_option linter.all false
set_option maxRecDepth 100000
set_option maxHeartbeats 4000000
/-! Part T: a collection begins; things are renewed. -/
namespace Toy
open PySem L2
open PyProof.Rows (envOfC)
theorem newK_range (n : Nat) : newK 0 (List.range n) = (List.range n).map fun k : Nat => ((Sum.inl (k : Int) : Key), V.int (k : Int)) := by
  induction n with
  | zero => rfl
  | succ n ih =>
    rw [List.range_succ, newK_app, ih, List.map_append, List.length_range, Nat.zero_add]
    rfl
theorem met_range {L gc : Nat} (h : gc ≤ L) : MetOk L (List.range gc) := ⟨List.nodup_range, fun a ha => by have := List.mem_range.mp ha; omega⟩
theorem ats_split {B : Addr → Prop} {H : Hp} : ∀ {l m : List Dd} {xs : List V}, Dd.Ats B H (l ++ m) xs → ∃ ys zs, xs = ys ++ zs ∧ Dd.Ats B H l ys ∧ Dd.Ats B H m zs
  | [], _, xs, h => ⟨[], xs, rfl, rfl, h⟩
  | _ :: _, _, _, ⟨x, ys, rfl, hx, h⟩ => by
    obtain ⟨us, zs, rfl, h1, h2⟩ := ats_split h
    exact ⟨x :: us, zs, rfl, ⟨x, us, rfl, hx, h1⟩, h2⟩
theorem rgV_nats (n : Nat) : rgV 0 (n : Int) = (List.range n).map fun a : Nat => V.int (a : Int) := by
  unfold rgV
  rw [show ((n : Int) - 0).toNat = n by omega]
  refine List.map_congr_left fun i _ => ?_
  show V.int (0 + (i : Int)) = V.int (i : Int)
  rw [Int.zero_add]
/-- a thing's place cut out -/
theorem Th.cut {H : Hp} {t : Th} {ys : List V} (hok : t.Ok) (hs : t.w.some = true) (h : Dd.Ats F0 H (t.pre ++ t.w.D ++ t.post) ys) : ∃ y1 y2, cutV (.str t.z :: ys) none (some t.ix) = .str t.z :: y1 ∧ cutV (.str t.z :: ys) (some (t.ix + 1)) none = y2 ∧ Dd.Ats F0 H t.pre y1 ∧ Dd.Ats F0 H t.post y2 := by
  have hyl := ats_len h
  obtain ⟨X, hX⟩ : ∃ X, t.w.D = [X] := by
    revert hs
    cases t.w <;> intro hs
    · cases hs
    · exact ⟨_, rfl⟩
    · exact ⟨_, rfl⟩
    · exact ⟨_, rfl⟩
  rw [hX] at h hyl
  rw [List.length_append, List.length_append] at hyl
  have hyl : ys.length = t.pre.length + 1 + t.post.length := hyl
  have hix : t.ix = ((t.pre.length + 1 : Nat) : Int) := by unfold Th.ix; rw [if_pos hs]
  rw [hix]
  have c1 := cut_to (.str t.z :: ys) (t.pre.length + 1) (by rw [List.length_cons]; omega)
  have c2 := cut_from (.str t.z :: ys) (t.pre.length + 1 + 1) (by rw [List.length_cons]; omega)
  rw [List.take_succ_cons] at c1
  rw [List.drop_succ_cons] at c2
  obtain ⟨y12, y3, rfl, h12, h3⟩ : ∃ a b, ys = a ++ b ∧ Dd.Ats F0 H (t.pre ++ [X]) a ∧ Dd.Ats F0 H t.post b := ats_split h
  obtain ⟨y1, y2, rfl, h1, h2⟩ := ats_snoc h12
  have l1 := ats_len h1
  refine ⟨y1, y3, ?_, ?_, h1, h3⟩
  · rw [c1, List.append_assoc, List.take_left' l1]
  · rw [show (((t.pre.length + 1 : Nat) : Int) + 1) = ((t.pre.length + 1 + 1 : Nat) : Int) by omega, c2]
    exact List.drop_left' (by rw [List.length_append, l1]; rfl)
theorem CoAt.off {C : Addr} {H : Hp} {p : CPl} {cs : List Cl} {met : List Nat} {D : Addr} {xs : List V} {o : HO} (h : CoAt C H p cs met) (n1 : D ≠ p.o) (n2 : D ≠ p.cd) (n3 : D ≠ p.ml) (n4 : D ≠ p.nd) (e : H D = some (.lst xs)) : CoAt C (upd H D o) p cs met := by
  obtain ⟨⟨dx, h1⟩, ⟨kvs, h2, h3⟩, h4, h5, h6⟩ := h
  exact ⟨⟨dx, by rw [upd_ne n1.symm]; exact h1⟩, ⟨kvs, by rw [upd_ne n2.symm]; exact h2, h3.keep (fr_upd e fun _ z => by cases z)⟩, by rw [upd_ne n3.symm]; exact h4, by rw [upd_ne n4.symm]; exact h5, h6⟩
section
variable {P : Program} {w : World} {K : PySem.W.Frag} {mg : Str → Option Value} {base : Heap} {C : Addr} {aP aN : Addr} {esP : Array DictEntry} {nP : Nat}
abbrev sCInit : Stmt := inClass (topS 7) 0
theorem scCInit : FnScope ["self", "cells", "global_count", "address"] ["self", "cells", "global_count"] (defScope sCInit) := ⟨rfl, rfl, rfl, by decide +kernel, rfl, by decide +kernel, by decide +kernel⟩
def spCInit (C : Addr) : Sp := fun vs H Q _ => ∃ (o dx cd : Addr) (gc : Nat) (cs : List Cl) (kvs : List (Key × V)), vs = [.ref o, .ref cd, .int (gc : Int)] ∧ H o = some (.ins C dx []) ∧ H cd = some (.dK kvs) ∧ CsAt H 0 cs kvs ∧ gc ≤ 1000 ∧ ∀ (p : CPl) (H' : Hp), p.o = o → p.cd = cd → H p.ml = none → H p.nd = none → CoAt C H' p cs (List.range gc) → KeepO o H H' → Q .non H'
theorem c_cinit {f : Addr} {fd : FuncData} (T : TxtCo K mg C) (M : Mk K C f) (mC : mg "Collection" = some (.ref C)) (F : Fun K "__init__" "Collection.__init__" sCInit f fd) (b : Binds K fd ["self", "cells", "global_count"] []) : C8.Mak P w K mg base 1 "Collection" C (spCInit C) [] := by
  refine ⟨f, fd, ["self", "cells", "global_count"], [], M, F.ok scCInit (fun vs H Q E h => ?_) (fun cdv A outer s H vs Q E hr h => ?_), mC, b, .nil⟩
  · obtain ⟨o, dx, cd, gc, cs, kvs, rfl, _⟩ := h
    rfl
  obtain ⟨o, dx, cd, gc, cs, kvs, rfl, ho, hcd, hkv, hgc, q⟩ := h
  refine ⟨_, (pss_cons (ps_fld (pv 0) (pv 1) rfl)
    (pss_cons (ps_fld (pv 0) (pe_listRg rfl rfl T.zlist (prg_1 rfl T.zrange (pv 2))) rfl)
    (pss_one (ps_fld (pv 0) (pe_dc (own := [("address", 3)]) (g := gName 3) (tt := tYes) rfl scCInit.nd (pi_list (pe_fld (pv 0) rfl)) (blkOk_by (own := [("address", 3)]) (N := ["self", "cells", "global_count", "address"]) (sc := defScope sCInit) (by decide +kernel)) (fun _ _ _ _ _ => (pg_name (i := 3) scCInit.nd rfl (Or.inl rfl))) (fun _ _ _ _ _ => pts_nil) (fun _ _ _ _ _ => (pv 3)) (fun _ _ _ _ _ => (pv 3))) rfl)))), ?_⟩
  refine ⟨_, rfl, _, rfl, o, C, dx, [], rfl, ho, T.cl, T.nC, (by show 0 < 1000; decide), ?_⟩
  have noc : cd ≠ o := fun z => by rw [z, ho] at hcd; cases hcd
  have ho1 : upd H o (.ins C dx (putF "cells" (.ref cd) [])) o = some (.ins C dx [("cells", .ref cd)]) := upd_same
  have k1 : KeepO o H (upd H o (.ins C dx (putF "cells" (.ref cd) []))) := fun b u n e => by rw [upd_ne n]; exact e
  have f1 : Fr F0 H (upd H o (.ins C dx (putF "cells" (.ref cd) []))) := fr_upd ho fun _ z => by cases z
  generalize upd H o (.ins C dx (putF "cells" (.ref cd) [])) = H1 at ho1 k1 f1 ⊢
  refine ⟨_, rfl, _, rfl, RgOk.of_le (by omega) (by omega) (by omega) (by omega), fun ml hml => ?_⟩
  rw [rgV_nats]
  have s2 := same_new hml (.lst ((List.range gc).map fun a : Nat => V.int (a : Int)))
  have em : upd H1 ml (.lst ((List.range gc).map fun a : Nat => V.int (a : Int))) ml = some (.lst ((List.range gc).map fun a : Nat => V.int (a : Int))) := upd_same
  have hml0 : H ml = none := by
    cases e : H ml with
    | none => rfl
    | some u =>
      by_cases z : ml = o
      · rw [z, ho1] at hml; cases hml
      · rw [k1 _ _ z e] at hml; cases hml
  have ho2 := s2 _ _ ho1
  have k2 : KeepO o H (upd H1 ml (.lst ((List.range gc).map fun a : Nat => V.int (a : Int)))) := fun b u n e => s2 _ _ (k1 b u n e)
  have f2 := f1.trans (fr_same (B := F0) s2)
  generalize upd H1 ml (.lst ((List.range gc).map fun a : Nat => V.int (a : Int))) = H2 at em ho2 k2 f2 ⊢
  clear s2 ho1 k1 f1 hml
  refine ⟨_, rfl, o, C, dx, _, rfl, ho2, T.cl, T.nM, (by show 1 < 1000; decide), ?_⟩
  have nmo : ml ≠ o := fun z => by rw [z, ho] at hml0; cases hml0
  have ho3 : upd H2 o (.ins C dx (putF "met" (.ref ml) [("cells", .ref cd)])) o = some (.ins C dx [("cells", .ref cd), ("met", .ref ml)]) := upd_same
  have em3 : upd H2 o (.ins C dx (putF "met" (.ref ml) [("cells", .ref cd)])) ml = _ := (upd_ne nmo).trans em
  have k3 : KeepO o H (upd H2 o (.ins C dx (putF "met" (.ref ml) [("cells", .ref cd)]))) := fun b u n e => by rw [upd_ne n]; exact k2 b u n e
  have f3 := f2.trans (fr_upd (o := .ins C dx (putF "met" (.ref ml) [("cells", .ref cd)])) ho2 fun _ z => by cases z)
  generalize upd H2 o (.ins C dx (putF "met" (.ref ml) [("cells", .ref cd)])) = H3 at ho3 em3 k3 f3 ⊢
  refine ⟨_, rfl, o, C, dx, _, .ref ml, rfl, ho3, T.cl, T.nM, rfl, ml, rfl, ⟨_, SqL.of em3⟩, fun D hD => ?_⟩
  have hD0 : H D = none := by
    cases e : H D with
    | none => rfl
    | some u =>
      by_cases z : D = o
      · rw [z, ho3] at hD; cases hD
      · rw [k3 _ _ z e] at hD; cases hD
  have nDm : ml ≠ D := fun z => by rw [← z, em3] at hD; cases hD
  refine dc_list (K := K) (a := ml) (xs := (List.range gc).map fun a : Nat => V.int (a : Int)) (fun i G => Same H3 G ∧ G D = some (.dK (newK 0 (List.range i)))) ⟨same_new hD _, upd_same⟩ (fun i G hi h => SqL.of (h.1 _ _ em3)) ?_ ?_
  · rintro i x G hx ⟨sG, eD⟩
    rw [List.getElem?_map] at hx
    obtain ⟨y, hy, rfl⟩ := Option.map_eq_some_iff.mp hx
    obtain ⟨hil, hy2⟩ := List.getElem?_eq_some_iff.mp hy
    rw [List.getElem_range] at hy2
    subst hy2
    rw [List.length_range] at hil
    refine ⟨rfl, ?_⟩
    refine tYes_if ?_
    refine ⟨_, rfl, _, rfl, _, Sum.inl (i : Int), rfl, eD, by rw [newK_len, List.length_range]; exact szl (by omega), same_upd hD sG _, ?_⟩
    rw [upd_same, putK_new _ (newK_out fun h => by have := List.mem_range.mp h; omega), List.range_succ, newK_app, List.length_range, Nat.zero_add]
  rintro G ⟨sG, eD⟩
  rw [List.length_map, List.length_range] at eD
  have ho4 := sG _ _ ho3
  have em4 := sG _ _ em3
  have f4 := f3.trans (fr_same (B := F0) sG)
  have nDo : D ≠ o := fun z => by rw [z, ho] at hD0; cases hD0
  refine ⟨_, rfl, o, C, dx, _, rfl, ho4, T.cl, T.nN, (by show 2 < 1000; decide), ?_⟩
  have f5 := f4.trans (fr_upd (o := .ins C dx (putF "new_addresses" (.ref D) [("cells", .ref cd), ("met", .ref ml)])) ho4 fun _ z => by cases z)
  have kcd : KeepO o H (upd G o (.ins C dx (putF "new_addresses" (.ref D) [("cells", .ref cd), ("met", .ref ml)]))) := fun b u n e => by rw [upd_ne n]; exact sG _ _ (k3 b u n e)
  refine q ⟨o, cd, ml, D⟩ _ rfl rfl hml0 hD0 ⟨⟨dx, upd_same⟩, ⟨kvs, kcd _ _ noc hcd, hkv.keep f5⟩, (upd_ne nmo).trans em4, (upd_ne nDo).trans eD, fun z => ?_⟩ kcd
  have z : cd = D := z
  rw [z, hD0] at hcd
  cases hcd
abbrev sRenewed : Stmt := inClass (topS 7) 2
theorem scRenewed : FnScope ["self", "thing", "words", "kind", "index", "new", "word"] ["self", "thing"] (defScope sRenewed) := ⟨rfl, rfl, rfl, by decide +kernel, rfl, by decide +kernel, by decide +kernel⟩
def spRenewed (C : Addr) : Sp := fun vs H Q _ => ∃ (p : CPl) (cs : List Cl) (met : List Nat) (v : V) (t : Th), vs = [.ref p.o, v] ∧ CoAt C H p cs met ∧ OnOk cs ∧ MetOk cs.length met ∧ (∀ x ∈ t.w.all, WIn cs.length x) ∧ cs.length ≤ 95000 ∧ t.w.all.length ≤ 100000 ∧ t.Ok ∧ t.D.At F0 H v ∧
  ∀ (met' : List Nat) (vs' : List Int) (x : V) (H' : Hp), Grw met met' → MetOk cs.length met' → RWs cs met' t.w.all vs' → CoAt C H' p cs met' → KeepC p H H' → ((∀ x ∈ t.w.all, ∃ y, RW cs met x y) → met' = met) → (t.to vs').D.At F0 H' x → Q x H'
theorem c_renewed {f : Addr} {fd : FuncData} (T : TxtCo K mg C) (TP : TxtPl w K mg aP aN esP nP) (c_words_in : C8.Cal P w K mg base 1 "_words_in" spWordsIn []) (cnew_word : C8.Met P w K mg base 1 C "new_word" (spNewWord C) []) (me : Meth K C "renewed" f) (F : Fun K "renewed" "Collection.renewed" sRenewed f fd) (b : Binds K fd ["self", "thing"] []) : C8.Met P w K mg base 2 C "renewed" (spRenewed C) [] := by
  refine met_of T.cl me F b scRenewed (fun vs H Q E h => ?_) (fun cdv A outer s H vs Q E hr h => ?_)
  · obtain ⟨p, cs, met, v, t, rfl, _⟩ := h
    rfl
  obtain ⟨p, cs, met, v, t, rfl, M, hon, hmet, hw, hl, hwl, hok, hat, q⟩ := h
  have hu := hu_of hr
  obtain ⟨a, ys, rfl, ha, hs⟩ := head_at hat
  refine ⟨_, (pss_cons (ps_setLc (i := 2) (own := [("word", 6)]) (g := gName 6) (tt := tYes) rfl scRenewed.nd rfl rfl (sw_true rfl rfl rfl (by decide +kernel)) (pi_list (C8.pe_c c_words_in hr (by decide) rfl (pa_cons (pv 1) pa_nil))) (blkOk_by (own := [("word", 6)]) (N := ["self", "thing", "words", "kind", "index", "new", "word"]) (sc := defScope sRenewed) (by decide +kernel)) (fun _ _ _ _ _ => (pg_name (i := 6) scRenewed.nd rfl (Or.inl rfl))) (fun _ _ _ _ _ => pts_nil) (fun _ _ _ _ _ => (C8.pe_mt cnew_word hr (by decide) (pv 0) (pa_cons (pv 6) pa_nil))))
    (pss_cons (ps_asg (pe_kget2 TP.kP (C8.pe_gc rfl TP.gPLACES) (pe_ix ix_tup (pv 1) pe_int (fun _ _ => rfl)) (C8.pe_gc rfl TP.gNO) ⟨rfl, rfl, rfl, rfl⟩) (pg_tup rfl (pgs_cons (pg_name (i := 3) scRenewed.nd rfl (Or.inl rfl)) (pgs_cons (pg_name (i := 4) scRenewed.nd rfl (Or.inl rfl)) pgs_nil))))
    (pss_cons (ps_if (pt_cmpR op_eq (pv 3) pe_str (nomark _))
      (pss_one (ps_ret (pv 1)))
      pss_nil)
    (pss_cons (ps_if (pt_cmpR op_eq (pv 3) pe_str (nomark _))
      (pss_one (ps_set (i := 5) scRenewed.nd rfl (Or.inl rfl) (pe_callTy call_tuple_of rfl T.ztuple boot_tuple (pa_cons (pv 2) pa_nil))))
      (pss_one (ps_set (i := 5) scRenewed.nd rfl (Or.inl rfl) (pe_ifExp (pt_cmpR op_eq (pv 3) pe_str (nomark _)) (pe_ix ix_list (pv 2) pe_int (fun _ _ => rfl)) (pe_op op_fdiv (pe_ix ix_list (pv 2) pe_int (fun _ _ => rfl)) pe_int)))))
    (pss_one (ps_ret (pe_tup (StX.pa_star (pe_slice sl_tupA (pv 1) po_none (po_some (pv 4))) (pa_cons (pv 5) (StX.pa_star (pe_slice sl_tupA (pv 1) (po_some (pe_op op_add (pv 4) pe_int)) po_none) pa_nil)))))))))), ?_⟩
  obtain ⟨dx0, ho0⟩ := id M.o
  obtain ⟨kvs0, hcd0, _⟩ := id M.c
  refine ⟨_, rfl, .ref a, t, rfl, hok, hat, fun La H1 s1 hLa0 eL => ⟨La, rfl, ⟨_, SqL.of eL⟩, fun D hD => ?_⟩⟩
  have M1 := M.same s1
  have nL : La ≠ p.ml ∧ La ≠ p.nd := ⟨(ne_of_none M.m hLa0).symm, (ne_of_none M.n hLa0).symm⟩
  have nD : D ≠ p.ml ∧ D ≠ p.nd ∧ D ≠ p.o ∧ D ≠ p.cd ∧ D ≠ La := ⟨(ne_of_none M1.m hD).symm, (ne_of_none M1.n hD).symm, (ne_of_none (s1 _ _ ho0) hD).symm, (ne_of_none (s1 _ _ hcd0) hD).symm, (ne_of_none eL hD).symm⟩
  have sD := same_new hD (.lst [])
  refine lc_list (a := La) (xs := t.w.all.map V.int) (fun i G => ∃ (met' : List Nat) (vs' : List Int), Grw met met' ∧ MetOk cs.length met' ∧ RWs cs met' (t.w.all.take i) vs' ∧ CoAt C G p cs met' ∧ KeepC p H G ∧ KeepC p H1 G ∧ ((∀ x ∈ t.w.all, ∃ y, RW cs met x y) → met' = met) ∧ G D = some (.lst (vs'.map V.int)))
    ⟨met, [], Grw.refl, hmet, .nil, M1.same sD, KeepC.same (sameT s1 sD), KeepC.same sD, fun _ => rfl, upd_same⟩ (fun i G _ ⟨_, _, _, _, _, _, _, k, _⟩ => SqL.of (k _ _ nL.1 nL.2 eL)) ?_ ?_
  · rintro i x G hx ⟨met', vs', g1, hm1, hr1, MG, kG, kG1, hst, eD⟩
    rw [List.getElem?_map] at hx
    obtain ⟨y, hy, rfl⟩ := Option.map_eq_some_iff.mp hx
    have hil := (List.getElem?_eq_some_iff.mp hy).1
    have hvl := hr1.len
    rw [List.length_take] at hvl
    obtain ⟨dx, ho⟩ := MG.o
    refine ⟨rfl, ?_⟩
    refine tYes_if ?_
    refine ⟨_, rfl, p.o, dx, _, rfl, ho, fldC_no_word .., _, rfl, p, cs, met', y, rfl, MG, hon, hm1, hw y (List.mem_of_getElem? hy), hl, fun met2 x' H2 g2 hm2 r2 M2 k2 hs2 => ?_⟩
    have eD2 := k2 _ _ nD.1 nD.2.1 eD
    have kD : ∀ b u, b ≠ D → H2 b = some u → upd H2 D (.lst (vs'.map V.int ++ [V.int x'])) b = some u := fun b u n e => by rw [upd_ne n]; exact e
    refine ⟨vs'.map V.int, eD2, by rw [List.length_map]; exact szl (by omega), met2, vs' ++ [x'], g1.trans g2, hm2, ?_, M2.off nD.2.2.1 nD.2.2.2.1 nD.1 nD.2.1 eD2, ?_, ?_, fun hall => ?_, by rw [upd_same, List.map_append]; rfl⟩
    · rw [List.take_add_one, hy]
      exact (hr1.grw g2).snoc r2
    · refine fun b u n1 n2 e => kD _ _ (fun z => ?_) (k2 _ _ n1 n2 (kG _ _ n1 n2 e))
      have := s1 _ _ e
      rw [z, hD] at this
      cases this
    · refine fun b u n1 n2 e => kD _ _ (fun z => ?_) (k2 _ _ n1 n2 (kG1 _ _ n1 n2 e))
      rw [z, hD] at e
      cases e
    · have e1 := hst hall
      subst e1
      obtain ⟨z, hz⟩ := hall y (List.mem_of_getElem? hy)
      exact hs2 z hz
  rintro G ⟨met', vs', g1, hm1, hr1, MG, kG, _, hst, eD⟩
  rw [List.length_map, List.take_length] at hr1
  have hvl := hr1.len
  have fG := M.fr kG
  have haG := fG.1 _ _ ha
  have hsG := hs.keep fG
  obtain ⟨r, v0, b', hns, h1, h2, rfl, hsq⟩ := Th.place TP hok
  show gName 2 (V.ref D) _ _ _
  refine ⟨rfl, _, rfl, a, _, 0, _, rfl, rfl, SqT.of haG, at0 _ _, t.z, r, _, rfl, hns, h1, h2, b', _, rfl, hsq _, rfl, _, _, rfl, _, _, rfl, rfl, ?_⟩
  have fin : ∀ (nv kv : V) (G' : Hp) (X' : Dd), t.w.some = true → KeepC p H G' → CoAt C G' p cs met' → (t.w.to vs').D = [X'] → X'.At F0 G' nv →
      tTup (StX.tStar K (tSl (rSlA K) (tVar 1) tNoPart (tPart (tVar 4))) (tCons (tVar 5) (StX.tStar K (tSl (rSlA K) (tVar 1) (tPart (tOp (rI0 fun i j => V.int (i + j)) (tVar 4) (tC (V.int 1)))) tNoPart) tNil))) [some (.ref p.o), some (.ref a), some (.ref D), some kv, some (.int t.ix), some nv, none] G' Q := fun nv kv G' X' hsm k' M' hX hat' => by
    have f' := M.fr k'
    have ha' := f'.1 _ _ ha
    obtain ⟨y1, y2, c1, c2, hp1, hp2⟩ := Th.cut hok hsm (hs.keep f')
    have l1 := ats_len hp1
    have l2 := ats_len hp2
    have l3 := hok.l
    have l4 := hok.k
    refine ⟨_, rfl, _, rfl, _, rfl, slA_tup ha' fun u1 J1 s1' hu1 => ?_⟩
    rw [c1] at hu1
    refine ⟨u1, _, rfl, .inl (SqT.of hu1), _, rfl, _, rfl, _, rfl, _, _, rfl, rfl, _, rfl, noPart (slA_tup (s1' _ _ ha') fun u2 J2 s2' hu2 => ?_)⟩
    rw [c2] at hu2
    refine ⟨u2, _, rfl, .inl (SqT.of hu2), ?_, fun tt htt => ?_⟩
    · have := szl (n := 10) (by decide)
      simp only [List.length_append, List.length_cons, List.length_nil]
      omega
    · have s3' := same_new htt (.tup ((.str t.z :: y1) ++ nv :: (y2 ++ [])))
      have s123 := sameT s1' (sameT s2' s3')
      refine q met' vs' _ _ g1 hm1 hr1 (M'.same s123) (k'.trans (KeepC.same s123)) hst ?_
      refine ⟨tt, (.str t.z :: y1) ++ nv :: (y2 ++ []), rfl, upd_same, ?_⟩
      show Dd.Ats F0 _ (.str t.z :: (t.pre ++ (t.w.to vs').D ++ t.post)) _
      have hp2' : Dd.Ats F0 G' t.post (y2 ++ []) := by rw [List.append_nil]; exact hp2
      rw [hX, List.append_assoc]
      exact ats_cons (at_str' hok.s) (ats_app (hp1.keep (fr_same s123)) (ats_cons (hat'.keep (fr_same s123)) (hp2'.keep (fr_same s123))))
  refine ⟨_, rfl, rfl, _, rfl, ?_⟩
  cases hw' : t.w with
  | none =>
    refine iteT ⟨_, rfl, ?_⟩
    refine q met' vs' _ _ g1 hm1 hr1 MG kG hst ?_
    have : t.to vs' = t := by unfold Th.to; rw [hw']; show (⟨t.z, t.pre, .none, t.post⟩ : Th) = t; rw [← hw']
    rw [this]
    exact Dd.At.keep fG hat
  | words ws =>
    refine iteF ?_
    refine ⟨_, rfl, rfl, _, rfl, ?_⟩
    refine iteT ⟨_, rfl, D, _, rfl, .inl ⟨SqL.of eD, fun t5 ht5 => ?_⟩⟩
    have s5 := same_new ht5 (.tup (vs'.map V.int))
    exact fin (.ref t5) _ _ (wsD vs') (by rw [hw']; rfl) (kG.trans (KeepC.same s5)) (MG.same s5) (by rw [hw']; rfl) (ws_of upd_same)
  | word x =>
    obtain ⟨x', rfl, hr'⟩ : ∃ x', vs' = [x'] ∧ RW cs met' x x' := by
      rw [hw'] at hr1
      cases hr1 with
      | cons h1 h2 => cases h2; exact ⟨_, rfl, h1⟩
    refine iteF ?_
    refine ⟨_, rfl, rfl, _, rfl, ?_⟩
    refine iteF ?_
    refine ⟨_, rfl, rfl, _, rfl, ?_⟩
    refine iteT ⟨_, rfl, D, _, _, _, rfl, rfl, SqL.of eD, at0 _ _, ?_⟩
    exact fin (.int x') _ _ (.int x') (by rw [hw']; rfl) kG MG (by rw [hw']; rfl) rfl
  | addr x =>
    obtain ⟨x', rfl, hr'⟩ : ∃ x', vs' = [x'] ∧ RW cs met' (2 * x) x' := by
      rw [hw'] at hr1
      cases hr1 with
      | cons h1 h2 => cases h2; exact ⟨_, rfl, h1⟩
    refine iteF ?_
    refine ⟨_, rfl, rfl, _, rfl, ?_⟩
    refine iteF ?_
    refine ⟨_, rfl, rfl, _, rfl, ?_⟩
    refine iteF ⟨_, rfl, D, _, _, _, rfl, rfl, SqL.of eD, at0 _ _, _, _, rfl, rfl, ⟨by decide, by decide⟩, ?_⟩
    exact fin (.int (x' / 2)) _ _ (.int (x' / 2)) (by rw [hw']; rfl) kG MG (by rw [hw']; rfl) rfl
end
end Toy

set_option Elab.async false
set_option linter.all false
set_option maxRecDepth 100000
set_option maxHeartbeats 4000000
/-! Part U: what a collection leaves. -/
namespace Toy
open PySem L2
open PyProof.Rows (envOfC)
inductive RFs (cs : List Cl) (met : List Nat) : List Fm → List Fm → Prop
  | nil : RFs cs met [] []
  | cons {f : Fm} {vs : List Int} {l l' : List Fm} : RWs cs met f.ws vs → RFs cs met l l' → RFs cs met (f :: l) (f.to vs :: l')
theorem RFs.snoc {cs : List Cl} {met : List Nat} {l l' : List Fm} {f : Fm} {vs : List Int} (h : RFs cs met l l') (k : RWs cs met f.ws vs) : RFs cs met (l ++ [f]) (l' ++ [f.to vs]) := by
  induction h with
  | nil => exact .cons k .nil
  | cons h _ ih => exact .cons h ih
theorem RFs.len {cs : List Cl} {met : List Nat} {l l' : List Fm} (h : RFs cs met l l') : l'.length = l.length := by
  induction h with
  | nil => rfl
  | cons _ _ ih => rw [List.length_cons, List.length_cons, ih]
/-- the cells that are renewed so far -/
def RCs (cs : List Cl) (met : List Nat) (cs' : List Cl) : Prop := ∀ (i a : Nat), i < cs'.length → met[i]? = some a → ∃ c vs, cs[a]? = some c ∧ RWs cs met c.ws vs ∧ cs'[i]? = some (c.to vs)
theorem RCs.grw {cs : List Cl} {met met' : List Nat} {cs' : List Cl} (h : RCs cs met cs') (l : cs'.length ≤ met.length) (g : Grw met met') : RCs cs met' cs' := fun i a hi e => by
  obtain ⟨x, hx⟩ : ∃ x, met[i]? = some x := ⟨_, List.getElem?_eq_getElem (by omega)⟩
  have := g.get hx
  rw [e] at this
  cases this
  obtain ⟨c, vs, h1, h2, h3⟩ := h i a hi hx
  exact ⟨c, vs, h1, h2.grw g, h3⟩
/-- what a collection leaves -/
structure ColS (gc : Nat) (cs : List Cl) (stk : List Fm) (n : Nw) (met : List Nat) (cs' : List Cl) (stk' : List Fm) (n' : Nw) : Prop where
  ok : MetOk cs.length met
  g : Grw (List.range gc) met
  l : cs'.length = met.length
  c : RCs cs met cs'
  s : RFs cs met stk stk'
  n : ∃ vs, RWs cs met n.ws vs ∧ n' = n.to vs
/-- what is asked of a machine that collects -/
structure ColOk (gc : Nat) (cs : List Cl) (stk : List Fm) (n : Nw) : Prop where
  on : OnOk cs
  c : ∀ c ∈ cs, (∀ x ∈ c.ws, WIn cs.length x) ∧ c.ws.length ≤ 100000
  s : ∀ f ∈ stk, (∀ x ∈ f.ws, WIn cs.length x) ∧ f.ws.length ≤ 100000
  nw : (∀ x ∈ n.ws, WIn cs.length x) ∧ n.ws.length ≤ 100000
  run : n.run = true
  g : gc ≤ cs.length
  g1 : gc ≤ 1000
  l : cs.length ≤ 95000
  k : stk.length ≤ 90000
  w : (gcWs gc ++ stkWs stk ++ n.ws).length ≤ 16000000
theorem same_keepC {H G G2 : Hp} {p : CPl} (s : Same H G) (k : KeepC p G G2) (h1 : H p.ml = none) (h2 : H p.nd = none) : Same H G2 := fun b u e => k b u (ne_of_none e h1) (ne_of_none e h2) (s b u e)
theorem rAt.go {H H' : Hp} {a : Addr} {l : List Dd} (h : rAt H a l) (f : Fr F0 H H') (e : ∀ u, H a = some u → H' a = some u) : rAt H' a l := by
  obtain ⟨xs, h1, h2⟩ := h
  exact ⟨xs, e _ h1, h2.keep f⟩
theorem CoAt.offD {C : Addr} {H : Hp} {p : CPl} {cs : List Cl} {met : List Nat} {D : Addr} {xs : List (Key × V)} {o : HO} (h : CoAt C H p cs met) (n1 : D ≠ p.o) (n2 : D ≠ p.cd) (n3 : D ≠ p.ml) (n4 : D ≠ p.nd) (e : H D = some (.dK xs)) : CoAt C (upd H D o) p cs met := by
  obtain ⟨⟨dx, h1⟩, ⟨kvs, h2, h3⟩, h4, h5, h6⟩ := h
  exact ⟨⟨dx, by rw [upd_ne n1.symm]; exact h1⟩, ⟨kvs, by rw [upd_ne n2.symm]; exact h2, h3.keep (fr_upd e fun _ z => by cases z)⟩, by rw [upd_ne n3.symm]; exact h4, by rw [upd_ne n4.symm]; exact h5, h6⟩
section
variable {P : Program} {w : World} {K : PySem.W.Frag} {mg : Str → Option Value} {base : Heap} {C : Addr}
abbrev sCollectCells : Stmt := topS 6
theorem scCollectCells : FnScope ["cells", "global_count", "stack", "now", "collection", "word", "new_cells", "address", "new_stack", "frame"] ["cells", "global_count", "stack", "now"] (defScope sCollectCells) := ⟨rfl, rfl, rfl, by decide +kernel, rfl, by decide +kernel, by decide +kernel⟩
def spCC (K : PySem.W.Frag) : Sp := fun vs H Q _ => ∃ (cd sa : Addr) (gc : Nat) (nv : V) (cs : List Cl) (kvs : List (Key × V)) (stk : List Fm) (n : Nw), vs = [.ref cd, .int (gc : Int), .ref sa, nv] ∧ H cd = some (.dK kvs) ∧ CsAt H 0 cs kvs ∧ rAt H sa (stk.map Fm.D) ∧ NwAt K H n nv ∧ ColOk gc cs stk n ∧
  ∀ (met : List Nat) (cs' : List Cl) (stk' : List Fm) (n' : Nw) (t e s' : Addr) (nv' : V) (kvs' : List (Key × V)) (H' : Hp), Same H H' → ColS gc cs stk n met cs' stk' n' → H' t = some (.tup [.ref e, .int (cs'.length : Int), .ref s', nv']) → H e = none → H s' = none → H' e = some (.dK kvs') → CsAt H' 0 cs' kvs' → rAt H' s' (stk'.map Fm.D) → NwAt K H' n' nv' → Q (.ref t) H'
theorem c_cc {f : Addr} {fd : FuncData} (T : TxtCo K mg C) (cCollection : C8.Mak P w K mg base 1 "Collection" C (spCInit C) []) (croots : C8.Cal P w K mg base 2 "roots" (spRoots K) []) (cnew_word : C8.Met P w K mg base 1 C "new_word" (spNewWord C) []) (crenewed : C8.Met P w K mg base 2 C "renewed" (spRenewed C) []) (F : Fun K "collect_cells" "collect_cells" sCollectCells f fd) (b : Binds K fd ["cells", "global_count", "stack", "now"] []) (hm : mg "collect_cells" = some (.ref f)) : C8.Cal P w K mg base 3 "collect_cells" (spCC K) [] := by
  refine cal_of F hm b scCollectCells (fun vs H Q E h => ?_) (fun cdv A outer s H vs Q E hr h => ?_)
  · obtain ⟨cd, sa, gc, nv, cs, kvs, stk, n, rfl, _⟩ := h
    rfl
  obtain ⟨cd, sa, gc, nv, cs, kvs, stk, n, rfl, hcd, hkv, hsa, hn, ⟨hon, hc, hs, hnw, hrun, hgc, hg1, hl, hk, hww⟩, q⟩ := h
  have hu := hu_of hr
  have hu64 := hr.units
  refine ⟨_, (pss_cons (ps_set (i := 4) scCollectCells.nd rfl (Or.inr rfl) (C8.pe_mk cCollection hr (by decide) rfl (pa_cons (pv 0) (pa_cons (pv 1) pa_nil))))
    (pss_cons (ps_for PassesOwn.never rfl (pi_list (C8.pe_c croots hr (by decide) rfl (pa_cons (pv 1) (pa_cons (pv 2) (pa_cons (pv 3) pa_nil))))) (pg_name (i := 5) scCollectCells.nd rfl (Or.inl rfl))
      (pss_one (ps_expr (C8.pe_mt cnew_word hr (by decide) (pv 4) (pa_cons (pv 5) pa_nil)))))
    (pss_cons (ps_set (i := 6) scCollectCells.nd rfl (Or.inl rfl) pe_dnewK)
    (pss_cons (ps_while PassesOwn.never (pt_cmpR op_lt (pe_callB call_lenD rfl T.zlen PySem.boot_len (pa_cons (pv 6) pa_nil)) (pe_callB call_len_seq rfl T.zlen PySem.boot_len (pa_cons (pe_fld (pv 4) rfl) pa_nil)) (nomark _))
      (pss_cons (ps_set (i := 7) scCollectCells.nd rfl (Or.inl rfl) (pe_callB call_lenD rfl T.zlen PySem.boot_len (pa_cons (pv 6) pa_nil)))
    (pss_one (ps_dput hu (pv 6) (pv 7) (C8.pe_mt crenewed hr (by decide) (pv 4) (pa_cons (pe_dget hu (pv 0) (pe_ix ix_list (pe_fld (pv 4) rfl) (pv 7) (fun _ _ => rfl)) (fun _ _ => rfl)) pa_nil)) rfl))))
    (pss_cons (ps_setLc (i := 8) (own := [("frame", 9)]) (g := gName 9) (tt := tYes) rfl scCollectCells.nd rfl rfl (sw_true rfl rfl rfl (by decide +kernel)) (pi_list (pv 2)) (blkOk_by (own := [("frame", 9)]) (N := ["cells", "global_count", "stack", "now", "collection", "word", "new_cells", "address", "new_stack", "frame"]) (sc := defScope sCollectCells) (by decide +kernel)) (fun _ _ _ _ _ => (pg_name (i := 9) scCollectCells.nd rfl (Or.inl rfl))) (fun _ _ _ _ _ => pts_nil) (fun _ _ _ _ _ => (C8.pe_mt crenewed hr (by decide) (pv 4) (pa_cons (pv 9) pa_nil))))
    (pss_one (ps_ret (pe_tup (pa_cons (pv 6) (pa_cons (pe_callB call_lenD rfl T.zlen PySem.boot_len (pa_cons (pv 6) pa_nil)) (pa_cons (pv 8) (pa_cons (C8.pe_mt crenewed hr (by decide) (pv 4) (pa_cons (pv 3) pa_nil)) pa_nil)))))))))))), ?_⟩
  refine ⟨_, rfl, _, rfl, fun o dx ho hdx nex => ?_⟩
  have s1 : Same H (upd (upd H dx (.own o)) o (.ins C dx [])) := fun b u e => by
    rw [upd_ne (ne_of_none e ho), upd_ne (ne_of_none e hdx)]
    exact e
  refine ⟨o, dx, cd, gc, cs, kvs, rfl, upd_same, s1 _ _ hcd, hkv.keep (fr_same s1), hg1, fun p H1 hp1 hp2 f1 f2 M1 k1 => ⟨rfl, ?_⟩⟩
  subst hp1
  have f1' : H p.ml = none := by
    cases e : H p.ml with
    | none => rfl
    | some u => rw [s1 _ _ e] at f1; cases f1
  have f2' : H p.nd = none := by
    cases e : H p.nd with
    | none => rfl
    | some u => rw [s1 _ _ e] at f2; cases f2
  have s01 : Same H H1 := fun b u e => k1 _ _ (ne_of_none e ho) (s1 _ _ e)
  clear s1 k1 f1 f2 hdx nex
  show gName 4 (V.ref p.o) _ _ _
  refine ⟨_, rfl, _, rfl, _, rfl, gc, sa, nv, stk, n, rfl, hg1, hsa.same s01, hn.keep s01, hrun, hk, hww, fun Lr H2 s12 hLr eL => ?_⟩
  have M2 := M1.same s12
  have s02 := sameT s01 s12
  have nLr : Lr ≠ p.ml ∧ Lr ≠ p.nd := ⟨(ne_of_none M1.m hLr).symm, (ne_of_none M1.n hLr).symm⟩
  have hroot : ∀ x ∈ gcWs gc ++ stkWs stk ++ n.ws, WIn cs.length x := fun x hx => by
    rcases List.mem_append.mp hx with hx | hx
    · rcases List.mem_append.mp hx with hx | hx
      · obtain ⟨i, hi, rfl⟩ := List.mem_map.mp hx
        have := List.mem_range.mp hi
        exact .inr ⟨i, rfl, by omega⟩
      · obtain ⟨g, hg, hx⟩ := List.mem_flatMap.mp hx
        exact (hs g hg).1 x hx
    · exact hnw.1 x hx
  obtain ⟨rts, hrts⟩ : ∃ rts, rts = gcWs gc ++ stkWs stk ++ n.ws := ⟨_, rfl⟩
  rw [← hrts] at eL hroot
  refine ⟨Lr, rfl, ⟨_, SqL.of eL⟩, for_list (a := Lr) (xs := rts.map V.int) (fun i st G => ∃ (met : List Nat) (v5 : Option V), st = [some (.ref cd), some (.int (gc : Int)), some (.ref sa), some nv, some (.ref p.o), v5, none, none, none, none] ∧ Grw (List.range gc) met ∧ MetOk cs.length met ∧ CoAt C G p cs met ∧ KeepC p H2 G ∧ ∀ x ∈ rts.take i, ∃ y, RW cs met x y)
    ⟨List.range gc, none, rfl, Grw.refl, met_range hgc, M2, KeepC.refl, fun x hx => by rw [List.take_zero] at hx; exact absurd hx List.not_mem_nil⟩ (fun i st G _ ⟨_, _, _, _, _, _, k, _⟩ => SqL.of (k _ _ nLr.1 nLr.2 eL)) ?_ ?_⟩
  · rintro i x st G hx ⟨met, v5, rfl, g1, hm1, MG, kG, hall⟩
    rw [List.getElem?_map] at hx
    obtain ⟨y, hy, rfl⟩ := Option.map_eq_some_iff.mp hx
    obtain ⟨dxG, hoG⟩ := MG.o
    show gName 5 (V.int y) _ _ _
    refine ⟨_, rfl, p.o, dxG, _, rfl, hoG, fldC_no_word .., _, rfl, p, cs, met, y, rfl, MG, hon, hm1, hroot y (List.mem_of_getElem? hy), hl, fun met2 y2 G2 g2 hm2 r2 M2' k2 _ => ?_⟩
    refine ⟨met2, _, rfl, g1.trans g2, hm2, M2', kG.trans k2, fun x hx => ?_⟩
    rw [List.take_add_one, hy] at hx
    rcases List.mem_append.mp hx with h | h
    · obtain ⟨z, hz⟩ := hall x h
      exact ⟨z, hz.grw g2⟩
    · rw [List.mem_singleton.mp h]
      exact ⟨y2, r2⟩
  rintro st G ⟨met, v5, rfl, g1, hm1, MG, kG, hall⟩
  rw [List.length_map, List.take_length] at hall
  have sG : Same H G := same_keepC s02 kG f1' f2'
  intro D hD
  have sD := same_new hD (.dK [])
  have eD0 : upd G D (.dK []) D = some (.dK []) := upd_same
  have MD := MG.same sD
  have sHD := sameT sG sD
  have hD0 : H D = none := by
    cases e : H D with
    | none => rfl
    | some u => rw [sG _ _ e] at hD; cases hD
  have nD : D ≠ p.ml ∧ D ≠ p.nd ∧ D ≠ p.o ∧ D ≠ p.cd := by
    obtain ⟨dx', h1⟩ := MG.o
    obtain ⟨kv', h2, _⟩ := MG.c
    exact ⟨(ne_of_none MG.m hD).symm, (ne_of_none MG.n hD).symm, (ne_of_none h1 hD).symm, (ne_of_none h2 hD).symm⟩
  have hcd' : p.cd = cd := hp2
  generalize upd G D (.dK []) = G1 at eD0 MD sHD ⊢
  clear MG kG sG sD hD
  show gName 6 (V.ref D) _ _ _
  refine ⟨fun m σ G => ∃ (met : List Nat) (cells : List Cl) (kvs' : List (Key × V)) (v7 : Option V), σ = [some (.ref cd), some (.int (gc : Int)), some (.ref sa), some nv, some (.ref p.o), v5, some (.ref D), v7, none, none] ∧ Grw (List.range gc) met ∧ MetOk cs.length met ∧ CoAt C G p cs met ∧ Same H G ∧ G D = some (.dK kvs') ∧ CsAt G 0 cells kvs' ∧ cells.length ≤ met.length ∧ RCs cs met cells ∧ (∀ x ∈ rts, ∃ y, RW cs met x y) ∧ m = cs.length - cells.length,
    ⟨_, met, [], [], none, rfl, g1, hm1, MD, sHD, eD0, rfl, Nat.zero_le _, fun i a hi => absurd hi (Nat.not_lt_zero _), hall, rfl⟩, ?_⟩
  rintro m σ G ⟨met, cells, kvs', v7, rfl, g1, hm1, MG, sG, eD, hcs, hle, hrc, hall, hm⟩
  have hkl := hcs.len
  have hml := nodup_le _ hm1.d hm1.l
  obtain ⟨dxG, hoG⟩ := MG.o
  obtain ⟨kvG, hcG, hcsG⟩ := MG.c
  refine ⟨_, rfl, D, kvs', rfl, eD, _, rfl, p.o, C, dxG, _, .ref p.ml, rfl, hoG, T.cl, T.nM, fldC_met .., p.ml, _, rfl, .inl (SqL.of MG.m), _, _, rfl, rfl, _, rfl, ?_⟩
  rw [hkl, List.length_map]
  by_cases hlt : cells.length < met.length
  · rw [decide_eq_true (show (cells.length : Int) < (met.length : Int) by omega)]
    refine iteT ?_
    obtain ⟨a, ha⟩ : ∃ a, met[cells.length]? = some a := ⟨_, List.getElem?_eq_getElem hlt⟩
    have hal := hm1.l a (List.mem_of_getElem? ha)
    obtain ⟨c, hca⟩ : ∃ c, cs[a]? = some c := ⟨_, List.getElem?_eq_getElem hal⟩
    obtain ⟨hc1, hc2⟩ := hc c (List.mem_of_getElem? hca)
    obtain ⟨v, hv, hat⟩ := hcsG.get hca
    rw [Nat.zero_add] at hv
    refine ⟨fun σ' G' => ∃ (met : List Nat) (cells' : List Cl) (kvs' : List (Key × V)) (v7 : Option V), σ' = [some (.ref cd), some (.int (gc : Int)), some (.ref sa), some nv, some (.ref p.o), v5, some (.ref D), v7, none, none] ∧ Grw (List.range gc) met ∧ MetOk cs.length met ∧ CoAt C G' p cs met ∧ Same H G' ∧ G' D = some (.dK kvs') ∧ CsAt G' 0 cells' kvs' ∧ cells'.length ≤ met.length ∧ RCs cs met cells' ∧ (∀ x ∈ rts, ∃ y, RW cs met x y) ∧ cells'.length = cells.length + 1, fun σ' G' ⟨met2, cells2, kvs2, v72, h1, h2, h3, h4, h5, h6, h7, h8, h9, h10, h11⟩ => ⟨cs.length - cells2.length, by omega, met2, cells2, kvs2, v72, h1, h2, h3, h4, h5, h6, h7, h8, h9, h10, rfl⟩, ?_⟩
    refine ⟨_, rfl, D, kvs', rfl, eD, ?_⟩
    show gName 7 (V.int (kvs'.length : Int)) _ _ _
    rw [hkl]
    refine ⟨_, rfl, p.o, dxG, _, rfl, hoG, fldC_no_renewed .., _, rfl, _, rfl, p.o, C, dxG, _, .ref p.ml, rfl, hoG, T.cl, T.nM, fldC_met .., _, rfl, p.ml, _, _, _, rfl, rfl, SqL.of MG.m, atI_nat (by rw [List.getElem?_map, ha]; rfl), cd, v, rfl, ?_, ?_⟩
    · exact hv ▸ DGet.k (k := Sum.inl (a : Int)) (hcd' ▸ hcG)
    refine ⟨p, cs, met, v, c.th, rfl, MG, hon, hm1, hc1, hl, hc2, c.th_ok, by rw [Cl.th_D]; exact hat, fun met2 vs' x H2 g2 hm2 r2 M2 k2 _ at2 => ?_⟩
    rw [← Cl.th_to, Cl.th_D] at at2
    have eD2 := k2 _ _ nD.1 nD.2.1 eD
    have f2 := MG.fr k2
    have hcs2 := hcs.keep f2
    refine ⟨_, rfl, _, rfl, D, _, rfl, DPut.k (k := Sum.inl (cells.length : Int)) eD2 (by rw [hkl]; exact szl (by omega)), ?_⟩
    have hout : valV kvs' (Sum.inl (cells.length : Int) : Key) = none := hcs.out (.inr (by omega))
    rw [putK_new _ hout]
    have f3 := fr_upd (o := .dK (kvs' ++ [((Sum.inl (cells.length : Int) : Key), x)])) eD2 fun _ z => by cases z
    have happ := CsAt.app (at2.keep f3) (hcs2.keep f3)
    rw [Nat.zero_add] at happ
    refine ⟨met2, cells ++ [c.to vs'], _, _, rfl, g1.trans g2, hm2, M2.offD nD.2.2.1 nD.2.2.2 nD.1 nD.2.1 eD2, ?_, upd_same, happ, ?_, ?_, fun y hy => ?_, by rw [List.length_append]; rfl⟩
    · refine fun b u e => ?_
      rw [upd_ne (ne_of_none e hD0)]
      exact same_keepC sG k2 f1' f2' _ _ e
    · rw [List.length_append]
      have := g2.len
      show cells.length + 1 ≤ _
      omega
    · intro i a' hi e
      rw [List.length_append] at hi
      have hi : i < cells.length + 1 := hi
      by_cases hic : i < cells.length
      · obtain ⟨c', vs2, h1, h2, h3⟩ := (hrc.grw hle g2) i a' hic e
        exact ⟨c', vs2, h1, h2, by rw [List.getElem?_append_left hic]; exact h3⟩
      · obtain rfl : i = cells.length := by omega
        have := g2.get ha
        rw [e] at this
        cases this
        exact ⟨c, vs', hca, r2, by rw [List.getElem?_append_right (Nat.le_refl _), Nat.sub_self]; rfl⟩
    · obtain ⟨z, hz⟩ := hall y hy
      exact ⟨z, hz.grw g2⟩
  rw [decide_eq_false (show ¬ (cells.length : Int) < (met.length : Int) by omega)]
  refine iteF ?_
  have hleq : cells.length = met.length := by omega
  obtain ⟨sxs, hsa1, hsa2⟩ := id hsa
  have hsxl := ats_len hsa2
  rw [List.length_map] at hsxl
  have hsaG := sG _ _ hsa1
  refine ⟨_, rfl, sa, rfl, ⟨_, SqL.of hsaG⟩, fun S hS => ?_⟩
  have sS := same_new hS (.lst [])
  have hS0 : H S = none := by
    cases e : H S with
    | none => rfl
    | some u => rw [sG _ _ e] at hS; cases hS
  have nS : S ≠ p.ml ∧ S ≠ p.nd ∧ S ≠ p.o ∧ S ≠ p.cd ∧ S ≠ D := ⟨(ne_of_none MG.m hS).symm, (ne_of_none MG.n hS).symm, (ne_of_none hoG hS).symm, (ne_of_none hcG hS).symm, (ne_of_none eD hS).symm⟩
  refine lc_list (a := sa) (xs := sxs) (fun i G' => CoAt C G' p cs met ∧ Same H G' ∧ G' D = some (.dK kvs') ∧ CsAt G' 0 cells kvs' ∧ ∃ (stk' : List Fm) (ys : List V), RFs cs met (stk.take i) stk' ∧ G' S = some (.lst ys) ∧ Dd.Ats F0 G' (stk'.map Fm.D) ys)
    ⟨MG.same sS, sameT sG sS, sS _ _ eD, hcs.keep (fr_same sS), [], [], .nil, upd_same, rfl⟩ (fun i G' _ ⟨_, h, _⟩ => SqL.of (h _ _ hsa1)) ?_ ?_
  · rintro i x G' hx ⟨MG', sG', eD', hcs', stk', ys, hrf, eS, hys⟩
    obtain ⟨k, hk', ka⟩ := ats_get hsa2 hx
    rw [List.getElem?_map] at hk'
    obtain ⟨fr, hfr, rfl⟩ := Option.map_eq_some_iff.mp hk'
    have hfm := List.mem_of_getElem? hfr
    obtain ⟨hs1, hs2⟩ := hs fr hfm
    have hil := (List.getElem?_eq_some_iff.mp hfr).1
    have hyl := ats_len hys
    rw [List.length_map, hrf.len, List.length_take] at hyl
    obtain ⟨dx', ho'⟩ := MG'.o
    refine ⟨rfl, ?_⟩
    refine tYes_if ?_
    refine ⟨_, rfl, p.o, dx', _, rfl, ho', fldC_no_renewed .., _, rfl, p, cs, met, x, fr.th, rfl, MG', hon, hm1, hs1, hl, hs2, fr.th_ok, by rw [Fm.th_D]; exact ka.keep (fr_same sG'), fun met2 vs' y H2 g2 hm2 r2 M2 k2 hst at2 => ?_⟩
    have e2 : met2 = met := hst fun z hz => hall z (by rw [hrts]; exact List.mem_append_left _ (List.mem_append_right _ (List.mem_flatMap.mpr ⟨fr, hfm, hz⟩)))
    subst e2
    rw [← Fm.th_to, Fm.th_D] at at2
    have f2 := MG'.fr k2
    have eS2 := k2 _ _ nS.1 nS.2.1 eS
    have f3 := fr_upd (o := .lst (ys ++ [y])) eS2 fun _ z => by cases z
    refine ⟨ys, eS2, szl (by omega), M2.off nS.2.2.1 nS.2.2.2.1 nS.1 nS.2.1 eS2, fun b u e => ?_, ?_, (hcs'.keep f2).keep f3, stk' ++ [fr.to vs'], _, ?_, upd_same, ?_⟩
    · rw [upd_ne (ne_of_none e hS0)]
      exact same_keepC sG' k2 f1' f2' _ _ e
    · rw [upd_ne nS.2.2.2.2.symm]
      exact k2 _ _ nD.1 nD.2.1 eD'
    · rw [List.take_add_one, hfr]
      exact hrf.snoc r2
    · rw [List.map_append]
      exact ats_app ((hys.keep f2).keep f3) (ats_one (Dd.At.keep f3 at2))
  rintro G' ⟨MG', sG', eD', hcs', stk', ys, hrf, eS, hys⟩
  rw [hsxl, List.take_length] at hrf
  obtain ⟨dx', ho'⟩ := MG'.o
  show gName 8 (V.ref S) _ _ _
  refine ⟨_, rfl, _, rfl, D, kvs', rfl, eD', _, rfl, _, rfl, p.o, dx', _, rfl, ho', fldC_no_renewed .., _, rfl, p, cs, met, nv, n.th, rfl, MG', hon, hm1, hnw.1, hl, hnw.2, n.th_ok, Nw.at_of (hn.keep sG') hrun, fun met2 vs' y H2 g2 hm2 r2 M2 k2 hst at2 => ⟨by show 4 ≤ sizeLine; decide, fun tt htt => ?_⟩⟩
  have e2 : met2 = met := hst fun z hz => hall z (by rw [hrts]; exact List.mem_append_right _ hz)
  subst e2
  have f2 := MG'.fr k2
  have s3 := same_new htt (.tup [.ref D, .int (kvs'.length : Int), .ref S, y])
  have eD2 := s3 _ _ (k2 _ _ nD.1 nD.2.1 eD')
  have eS2 := s3 _ _ (k2 _ _ nS.1 nS.2.1 eS)
  refine q met2 cells stk' (n.to vs') tt D S y kvs' _ (sameT (same_keepC sG' k2 f1' f2') s3) ⟨hm1, g1, hleq, hrc, hrf, vs', r2, rfl⟩ (by rw [upd_same, hkl]) hD0 hS0 eD2 ((hcs'.keep f2).keep (fr_same s3)) ⟨ys, eS2, (hys.keep f2).keep (fr_same s3)⟩ (NwAt.keep (Nw.at_to at2 hrun) s3)
end
end Toy

set_option Elab.async false
set_option linter.all false
set_option maxRecDepth 100000
set_option maxHeartbeats 4000000
/-! Part V: own rule: the list of a dict's values; the heap is renewed; a machine collects. -/
namespace L2
open PySem PySem.Spec PyProof.Rows
section
variable {X : Cx} {o : Expr} {p pos apos mpos : Pos} {td : TE}
/-- list(o.values()), a dict with number or text keys -/
def tListVals (td : TE) : TE := fun σ H Q => td σ H fun x H1 => ∃ a kvs, x = V.ref a ∧ H1 a = some (.dK kvs) ∧ ∀ q, H1 q = none → Q (.ref q) (upd H1 q (.lst (kvs.map (·.2))))
theorem pe_listVals (hc : X.calm = true) (hg : Gl X "list") (hm : X.mg "list" = none) (hd : PE X o td) (hbase : attributeBase o "values" X.env (eval o X.env) = eval o X.env := by rfl) (hline : (apos.endLine == mpos.line) = true := by rfl)
    (hse : backTo pos (starEach [Expr.Call (.Attribute o "values" apos) [] [] mpos] X.env) = [(false, eval (Expr.Call (.Attribute o "values" apos) [] [] mpos) X.env)] := by rfl) :
    PE X (.Call (.Name "list" p) [.Call (.Attribute o "values" apos) [] [] mpos] [] pos) (tListVals td) := by
  refine ⟨fun pins s σ H Q I h => ?_⟩
  refine wpAny_Call_Name_kw (ld_blt I hg hm (u := .type "list") Toy.boot_list ?_ (by first | decide +kernel | decide) (by first | decide +kernel | decide))
  rw [hse]
  refine PySem.callWith_type1 (wpAny_Call_method0_late hbase hline (thn (hd.run pins _ σ H _ (I.tok _) h) fun v s1 ⟨x, H1, I1, r1, a, kvs, ex, ha, q⟩ => ?_))
  subst ex
  obtain rfl : v = Value.ref a := r1
  obtain ⟨z, hsys, vs, rel, dof⟩ := (show ObjOk X.prog X.w H1 s1.heap a (.dK kvs) from I1.hok a _ ha)
  obtain ⟨ep, dat⟩ := dof.dictAt
  have dat' := dat
  obtain ⟨ob, es, ho, ex, hdat, hko, hpr, hnd⟩ := dat'
  refine ⟨"dict", "dict.values", F.plainAttrs_dict, F.slot_dict_values, F.type_dict_values, ⟨ob, ho, ex.1⟩, fun b e => ?_, Calls.callWith_builtin rfl (PySem.evalArgs_none ?_)⟩
  · cases e
    exact ⟨ob, ho, ex.2.1⟩
  refine call_meetsIn F.slot_dict_values ⟨ob, ho, ex.1⟩ F.entry_dict_values (F.args_dict_values_1 _) (meets_dict_values (mixKind X.prog X.w) a hsys) ⟨⟨vs, dof⟩, ?_⟩
  have k1 : ∀ b u, s1.heap.get? b = some u → (s1.heap.push { cls := .type "dict_values", data := .fields #[.ref a] }).get? b = some u := fun b u e => Heap.get?_push_of_some _ e
  have dat1 : (s1.heap.push { cls := .type "dict_values", data := .fields #[.ref a] }).DictAt (mixKind X.prog X.w) a vs ep := dat.keep k1
  have hl : kvs.length = vs.length := Paired.length rel
  have I2 : Inv X pins σ H1 { s1 with heap := s1.heap.push { cls := .type "dict_values", data := .fields #[.ref a] } } := I1.kept (t' := s1.toks) k1
  refine PySem.W.kdl_call (PySem.W.kdl_values (knd := mixKind X.prog X.w) (kvs := vs) (ep := ep)) (I.ok.hd hc) ⟨⟨_, Heap.get?_push_size _ rfl, rfl, rfl⟩, dat1⟩ (by rw [← hl]; exact z) fun h' tk acc' c' hkeep hS hacc => ?_
  refine ⟨.ref _, upd H1 _ (.lst (kvs.map (·.2))), I2.laid hkeep (Nat.le_refl _) (show ObjOk X.prog X.w _ _ _ (.lst (kvs.map (·.2))) from ⟨?_, acc'.toList, c', ?_, ?_⟩), rfl, q _ (I2.hok.fresh (Nat.le_refl _))⟩
  · rw [List.length_map]; exact z
  · have el : acc'.toList.length = acc'.size := by simp
    refine vals_of_at (by rw [List.length_map, el, hacc.1, hl]) fun j x w h1 h2 => ?_
    obtain ⟨k, hky⟩ := hacc.2 j w (by rw [← Array.getElem?_toList]; exact h2)
    obtain ⟨y, g1, g2⟩ := KV.at' rel hky
    rw [List.getElem?_map, g1] at h1
    cases h1
    exact g2
  · rw [Array.toArray_toList]; exact hS
end
end L2

namespace Toy
open PySem L2
open PyProof.Rows (envOfC)
theorem used_sumC : ∀ cs : List Cl, (cs.map fun c => (c.size : Int)).sum = used cs
  | [] => rfl
  | c :: cs => by
    rw [List.map_cons, List.sum_cons, used_sumC cs]
    rfl
theorem CsAt.nth {H : Hp} {x : V} : ∀ {cs : List Cl} {i j : Nat} {kvs : List (Key × V)}, CsAt H i cs kvs → (kvs.map (·.2))[j]? = some x → ∃ c, cs[j]? = some c ∧ c.D.At F0 H x
  | [], _, _, _, h, m => by cases (show _ = [] from h); simp at m
  | c :: cs, i, j, _, ⟨v, ks, e, h, hs⟩, m => by
    subst e
    cases j with
    | zero =>
      cases m
      exact ⟨c, rfl, h⟩
    | succ j =>
      have m' : (ks.map (·.2))[j]? = some x := m
      exact CsAt.nth (j := j) hs m'
theorem boot_dict : bootBuiltins "dict" = some (.type "dict") := by decide +kernel
structure TxtRn (mg : Str → Option Value) : Prop where
  zdict : mg "dict" = none
  zlist : mg "list" = none
  zsum : mg "sum" = none
section
variable {P : Program} {w : World} {K : PySem.W.Frag} {mg : Str → Option Value} {base : Heap} {C : Addr}
abbrev sRenew : Stmt := inClass (topS 14) 6
theorem scRenew : FnScope ["self", "cells", "next_address", "cell"] ["self", "cells", "next_address"] (defScope sRenew) := ⟨rfl, rfl, rfl, by decide +kernel, rfl, by decide +kernel, by decide +kernel⟩
def spRenew (C : Addr) : Sp := fun vs H Q _ => ∃ (p : Pl) (e : Addr) (cs cs' : List Cl) (kvs : List (Key × V)), vs = [.ref p.ho, .ref e, .int (cs'.length : Int)] ∧ hAt C H p cs ∧ p.ho ≠ p.hd ∧ H e = some (.dK kvs) ∧ CsAt H 0 cs' kvs ∧ cs'.length ≤ 95000 ∧
  ∀ (d' : Addr) (H' : Hp), H d' = none → (∀ b u, b ≠ p.ho → H b = some u → H' b = some u) → hAt C H' { p with hd := d' } cs' → Q .non H'
theorem c_renew {f : Addr} {fd : FuncData} (T : TxtRn mg) (TH : TxtH K C) (csize_of : C8.Cal P w K mg base 1 "size_of" (spSize K) []) (me : Meth K C "renew" f) (F : Fun K "renew" "Heap.renew" sRenew f fd) (b : Binds K fd ["self", "cells", "next_address"] []) : C8.Met P w K mg base 2 C "renew" (spRenew C) [] := by
  refine met_of TH.cl me F b scRenew (fun vs H Q E h => ?_) (fun cdv A outer s H vs Q E hr h => ?_)
  · obtain ⟨p, e, cs, cs', kvs, rfl, _⟩ := h
    rfl
  obtain ⟨p, e, cs, cs', kvs, rfl, ⟨⟨dx, ho⟩, kvs0, hd, hkv0⟩, nod0, he, hkv, hl, q⟩ := h
  have hu := hu_of hr
  have hkl := hkv.len
  refine ⟨_, (pss_cons (ps_fld (pv 0) (pe_callTy call_dictD rfl T.zdict boot_dict (pa_cons (pv 1) pa_nil)) rfl)
    (pss_cons (ps_fld (pv 0) (pv 2) rfl)
    (pss_one (ps_fld (pv 0) (pe_callB (cr_sum rfl) rfl T.zsum PyProof.Rows.boot_sum (pa_cons (pe_lc (own := [("cell", 3)]) (g := gName 3) (tt := tYes) rfl scRenew.nd (pi_list (pe_listVals rfl rfl T.zlist (pv 1))) (blkOk_by (own := [("cell", 3)]) (N := ["self", "cells", "next_address", "cell"]) (sc := defScope sRenew) (by decide +kernel)) (fun _ _ _ _ _ => (pg_name (i := 3) scRenew.nd rfl (Or.inl rfl))) (fun _ _ _ _ _ => pts_nil) (fun _ _ _ _ _ => (C8.pe_c csize_of hr (by decide) rfl (pa_cons (pv 3) pa_nil)))) pa_nil)) rfl)))), ?_⟩
  refine ⟨_, rfl, e, kvs, rfl, Rd.of he, fun d' hd' => ?_⟩
  have s1 := same_new hd' (.dK kvs)
  have e1 : upd H d' (.dK kvs) d' = some (.dK kvs) := upd_same
  generalize upd H d' (.dK kvs) = H1 at s1 e1 ⊢
  have nod : p.ho ≠ d' := ne_of_none ho hd'
  have noe : e ≠ p.ho := fun z => by rw [z, ho] at he; cases he
  have ho1 := s1 _ _ ho
  refine ⟨_, rfl, p.ho, C, dx, _, rfl, ho1, TH.cl, TH.nC, fldH_len .., ?_⟩
  rw [fldH_put_cells]
  refine ⟨_, rfl, _, rfl, p.ho, C, dx, _, rfl, upd_same, TH.cl, TH.nN, fldH_len .., ?_⟩
  rw [fldH_put_next, upd_upd]
  have t3 : Fr F0 H (upd H1 p.ho (.ins C dx (fldH p.room (used cs) d' (cs'.length : Int)))) := (fr_same s1).trans (fr_upd ho1 fun _ z => by cases z)
  have ho3 : upd H1 p.ho (.ins C dx (fldH p.room (used cs) d' (cs'.length : Int))) p.ho = some (.ins C dx (fldH p.room (used cs) d' (cs'.length : Int))) := upd_same
  have hd3 : upd H1 p.ho (.ins C dx (fldH p.room (used cs) d' (cs'.length : Int))) d' = some (.dK kvs) := by rw [upd_ne nod.symm]; exact e1
  have he3 : upd H1 p.ho (.ins C dx (fldH p.room (used cs) d' (cs'.length : Int))) e = some (.dK kvs) := by rw [upd_ne noe]; exact s1 _ _ he
  have k3 : ∀ b u, b ≠ p.ho → H b = some u → upd H1 p.ho (.ins C dx (fldH p.room (used cs) d' (cs'.length : Int))) b = some u := fun b u nb z => by rw [upd_ne nb]; exact s1 _ _ z
  generalize upd H1 p.ho (.ins C dx (fldH p.room (used cs) d' (cs'.length : Int))) = H3 at t3 ho3 hd3 he3 k3 ⊢
  refine ⟨_, rfl, e, kvs, rfl, he3, fun vl hvl => ⟨vl, rfl, ⟨_, SqL.of upd_same⟩, fun D hD => ?_⟩⟩
  have s4 := same_new hvl (.lst (kvs.map (·.2)))
  have e4 : upd H3 vl (.lst (kvs.map (·.2))) vl = some (.lst (kvs.map (·.2))) := upd_same
  generalize upd H3 vl (.lst (kvs.map (·.2))) = H4 at s4 e4 hD ⊢
  have t4 := t3.trans (fr_same (B := F0) s4)
  have hkv4 := hkv.keep t4
  refine lc_list (K := K) (a := vl) (xs := kvs.map (·.2)) (fun i G => Same H4 G ∧ G D = some (.lst ((((cs'.take i).map fun c => (c.size : Int))).map V.int))) ⟨same_new hD _, upd_same⟩ (fun i G hi ⟨h1, h2⟩ => SqL.of (h1 _ _ e4)) ?_ ?_
  · rintro i x G hx ⟨h1, h2⟩
    obtain ⟨c, hc, hat⟩ := hkv4.nth hx
    have hil : i < cs'.length := (List.getElem?_eq_some_iff.mp hc).1
    refine ⟨rfl, ?_⟩
    refine tYes_if ?_
    refine ⟨_, rfl, x, _, _, rfl, sized_cell (c := c) (Dd.At.keep (fr_same h1) hat), fun G2 s5 => ?_⟩
    refine ⟨_, s5 _ _ h2, ?_, same_upd hD (sameT h1 s5) _, ?_⟩
    · rw [List.length_map, List.length_map, List.length_take]
      exact szl (by omega)
    · rw [upd_same, List.take_add_one, hc, List.map_append, List.map_append, c.size_eq]
      rfl
  · rintro G ⟨h1, h2⟩
    rw [List.length_map, hkl, List.take_length] at h2
    have hoG := h1 _ _ (s4 _ _ ho3)
    refine ⟨D, _, rfl, SqL.of h2, _, rfl, p.ho, C, dx, _, rfl, hoG, TH.cl, TH.nU, fldH_len .., ?_⟩
    rw [fldH_put_used, used_sumC]
    have tG : Fr F0 H4 (upd G p.ho (.ins C dx (fldH p.room (used cs') d' (cs'.length : Int)))) := (fr_same h1).trans (fr_upd hoG fun _ z => by cases z)
    exact q d' _ hd' (fun b u nb z => by rw [upd_ne nb]; exact h1 _ _ (s4 _ _ (k3 _ _ nb z))) ⟨⟨dx, upd_same⟩, kvs, by show upd _ _ _ d' = _; rw [upd_ne nod.symm]; exact h1 _ _ (s4 _ _ hd3), hkv4.keep tG⟩
end
end Toy

set_option Elab.async false
set_option linter.all false
set_option maxRecDepth 100000
set_option maxHeartbeats 4000000
/-! Part W: a machine collects. -/
namespace L2
open PySem PySem.Spec PyProof.Rows
/-- o.f as a target among several -/
def gFld (K : PySem.W.Frag) (ta : TE) (f : Str) : TG := fun v σ H Q => ta σ H fun x H1 => ∃ a C dx fs, x = .ref a ∧ H1 a = some (.ins C dx fs) ∧ Cls K C ∧ NoAttr K C f ∧ fs.length < 1000 ∧ Q σ (upd H1 a (.ins C dx (putF f v fs)))
theorem pg_fld {X : Cx} {o : Expr} {f : Str} {pos : Pos} {ta : TE} (ho : PE X o ta) : PG X (.Attribute o f pos) (gFld X.K ta f) := by
  refine ⟨fun pins s σ H v u Q I r h => ?_⟩
  rw [assign_Attribute]
  refine wpAny_bind (wpAny_holding (thn (ho.run pins s σ H _ I h) fun ov s1 ⟨x, H1, I1, r1, a, C, dx, fs, ex, ea, c, n, l, q1⟩ => ?_))
  subst ex
  obtain rfl : ov = Value.ref a := r1
  refine wpAny_bind (wpAny_standAt (wpAny_bind (wpAny_holding (setattr_ok I1 ea c n l r fun s3 I3 => ?_))))
  exact wpAny_release ⟨σ, _, I3, q1⟩
end L2
namespace Toy
open PySem L2
open PyProof.Rows (envOfC)
/-- the machine with other cells and another stack -/
def Mc.col (m : Mc) (cs : List Cl) (stk : List Fm) : Mc := { m with cs := cs, stk := stk }
section
variable {P : Program} {w : World} {K : PySem.W.Frag} {mg : Str → Option Value} {base : Heap} {CM CH pS fS : Addr} {fdS : FuncData}
abbrev sCollect : Stmt := inClass (topS 57) 3
theorem scCollect : FnScope ["self", "many", "cells", "next_address"] ["self"] (defScope sCollect) := ⟨rfl, rfl, rfl, by decide +kernel, rfl, by decide +kernel, by decide +kernel⟩
def spCollect (K : PySem.W.Frag) (CM CH : Addr) : Sp := fun vs H Q _ => ∃ (p : Pl) (m : Mc) (nv : V) (co : Int) (fs : List (Int × Dd)) (n : Nw), vs = [.ref p.mo] ∧ MkAt CM CH H p m nv co ∧ NwAt K H n nv ∧ FsAt H fs p.fv ∧ ColOk fs.length m.cs m.stk n ∧
  ∀ (met : List Nat) (cs' : List Cl) (stk' : List Fm) (n' : Nw) (p' : Pl) (nv' : V) (H' : Hp), ColS fs.length m.cs m.stk n met cs' stk' n' → (∃ d s, p' = { p with hd := d, sa := s } ∧ H d = none ∧ H s = none) → KeepM p H H' → MkAt CM CH H' p' (m.col cs' stk') nv' (co + 1) → NwAt K H' n' nv' → Q .non H'
theorem c_collect {f : Addr} {fd : FuncData} (T : TxtStep P w K mg base CM CH pS fS fdS) (zlen : mg "len" = none) (TH : TxtH K CH) (ccollect_cells : C8.Cal P w K mg base 3 "collect_cells" (spCC K) []) (crenew : C8.Met P w K mg base 2 CH "renew" (spRenew CH) []) (me : Meth K CM "collect" f) (F : Fun K "collect" "Machine.collect" sCollect f fd) (b : Binds K fd ["self"] []) : C8.Met P w K mg base 4 CM "collect" (spCollect K CM CH) [] := by
  refine met_of T.cl me F b scCollect (fun vs H Q E h => ?_) (fun cdv A outer s H vs Q E hr h => ?_)
  · obtain ⟨p, m, nv, co, fs, n, rfl, _⟩ := h
    rfl
  obtain ⟨p, m, nv, co, fs, n, rfl, M, hn, ⟨fa, fx, hfv, hfa, hfx⟩, hok, q⟩ := h
  have hu := hu_of hr
  have T' := T
  have hfl := ats_len hfx
  rw [List.length_map] at hfl
  refine ⟨_, (pss_cons (ps_if (pt_val (pe_prop (E := C8.E0) (pv 0) T.cl T.hpStop T.fStop (hr.mono (by decide)) T.bStop .nil C8.pass0 rfl))
      (pss_one ps_retN)
      pss_nil)
    (pss_cons (ps_set (i := 1) scCollect.nd rfl (Or.inl rfl) (pe_callB call_len_seq rfl zlen PySem.boot_len (pa_cons (pe_fld (pv 0) rfl) pa_nil)))
    (pss_cons (ps_asg (C8.pe_c ccollect_cells hr (by decide) rfl (pa_cons (pe_fld (pe_fld (pv 0) rfl) rfl) (pa_cons (pv 1) (pa_cons (pe_fld (pv 0) rfl) (pa_cons (pe_fld (pv 0) rfl) pa_nil))))) (pg_tup rfl (pgs_cons (pg_name (i := 2) scCollect.nd rfl (Or.inl rfl)) (pgs_cons (pg_name (i := 3) scCollect.nd rfl (Or.inl rfl)) (pgs_cons (pg_fld (pv 0)) (pgs_cons (pg_fld (pv 0)) pgs_nil))))))
    (pss_cons (ps_expr (C8.pe_mt crenew hr (by decide) (pe_fld (pv 0) rfl) (pa_cons (pv 2) (pa_cons (pv 3) pa_nil))))
    (pss_one (ps_fldaug (pv 0) pe_int ip_add)))))), ?_⟩
  obtain ⟨dx, ho⟩ := id M.o
  refine ⟨_, rfl, p.mo, dx, _, rfl, ho, p, m, nv, co, n, rfl, M, hn, ?_⟩
  refine ⟨_, rfl, ?_⟩
  rw [hok.run]
  refine iteF ?_
  refine ⟨_, rfl, p.mo, CM, dx, _, p.fv, rfl, ho, T.cl, T.n_functions, fM_functions .., fa, fx, congrArg (fun v => [v]) hfv, .inr (SqT.of hfa), ?_⟩
  rw [hfl]
  obtain ⟨⟨dy, hho⟩, kvs, hhd, hkv⟩ := id M.h
  refine ⟨_, rfl, p.mo, CM, dx, _, .ref p.ho, rfl, ho, T.cl, T.n_heap, fM_heap .., p.ho, CH, dy, _, .ref p.hd, rfl, hho, TH.cl, TH.nC, fldH_cells .., _, rfl, _, rfl, p.mo, CM, dx, _, .ref p.sa, rfl, ho, T.cl, T.n_stack, fM_stack .., _, rfl, p.mo, CM, dx, _, nv, rfl, ho, T.cl, T.n_now, fM_now .., p.hd, p.sa, fs.length, nv, m.cs, kvs, m.stk, n, rfl, hhd, hkv, M.s, hn, hok, fun met cs' stk' n' t e s' nv' kvs' H1 s1 hcol ht he hs' he1 hkv1 hr1 hn1 => ?_⟩
  have ho1 := s1 _ _ ho
  refine ⟨t, _, rfl, SqT.of ht, rfl, _, _, rfl, _, _, rfl, _, _, rfl, _, rfl, p.mo, CM, dx, _, rfl, ho1, T.cl, T.n_stack, fM_len .., ?_⟩
  rw [fM_put_stack]
  refine ⟨_, _, rfl, _, rfl, p.mo, CM, dx, _, rfl, upd_same, T.cl, T.n_now, fM_len .., rfl, ?_⟩
  rw [fM_put_now, upd_upd]
  obtain ⟨n1, n2, n3, n4, n5, n6, n7, n8, n9, n10, n11, n12, n13, n14, n15⟩ := id M.ok
  obtain ⟨es, hes, hesA⟩ := id M.e
  obtain ⟨ns, hns, hnsA⟩ := id M.n
  obtain ⟨ss, hss, hssA⟩ := id M.s
  obtain ⟨rs, hrs, hrsA⟩ := id hr1
  have nes : e ≠ p.mo := (ne_of_none ho he).symm
  have nss : s' ≠ p.mo := (ne_of_none ho hs').symm
  have f2 : Fr F0 H1 (upd H1 p.mo (.ins CM dx (fM p.fv p.ho m.ser s' nv' p.ea p.na co))) := fr_upd ho1 fun _ z => by cases z
  have ho2 : upd H1 p.mo (.ins CM dx (fM p.fv p.ho m.ser s' nv' p.ea p.na co)) p.mo = some (.ins CM dx (fM p.fv p.ho m.ser s' nv' p.ea p.na co)) := upd_same
  have k2 : ∀ b u, b ≠ p.mo → H1 b = some u → upd H1 p.mo (.ins CM dx (fM p.fv p.ho m.ser s' nv' p.ea p.na co)) b = some u := fun b u nb z => by rw [upd_ne nb]; exact z
  generalize upd H1 p.mo (.ins CM dx (fM p.fv p.ho m.ser s' nv' p.ea p.na co)) = H2 at f2 ho2 k2 ⊢
  have hho2 := k2 _ _ n1.symm (s1 _ _ hho)
  have hA2 : hAt CH H2 p m.cs := ⟨⟨dy, hho2⟩, kvs, k2 _ _ n2.symm (s1 _ _ hhd), hkv.keep ((fr_same s1).trans f2)⟩
  refine ⟨_, rfl, p.mo, CM, dx, _, .ref p.ho, rfl, ho2, T.cl, T.n_heap, fM_heap .., p.ho, dy, _, rfl, hho2, fldH_no_renew .., _, rfl, _, rfl, p, e, m.cs, cs', kvs', rfl, hA2, n6, k2 _ _ nes he1, hkv1.keep f2, by have h1 := hcol.l; have h2 := nodup_le _ hcol.ok.d hcol.ok.l; have h3 := hok.l; omega, fun d' H3 hd' k3 hA3 => ?_⟩
  have f3 : Fr F0 H2 H3 := ⟨fun a us z => k3 _ _ (fun y => by rw [y, hho2] at z; cases z) z, fun _ _ z _ => z.elim⟩
  have ho3 := k3 _ _ n1 ho2
  refine ⟨_, rfl, p.mo, CM, dx, _, .int co, rfl, ho3, T.cl, T.n_collections, fM_collections .., _, _, rfl, rfl, dx, _, ho3, fM_len .., ?_⟩
  rw [fM_put_collections]
  have nd0 : H d' = none := by
    cases z : H d' with
    | none => rfl
    | some u =>
      have z1 := s1 _ _ z
      by_cases y : d' = p.mo
      · rw [y, ho2] at hd'; cases hd'
      · rw [k2 _ _ y z1] at hd'; cases hd'
  have hs2 := k2 _ _ nss hrs
  have nds : d' ≠ s' := fun z => by rw [z, hs2] at hd'; cases hd'
  have nhs : s' ≠ p.ho := (ne_of_none hho hs').symm
  have f4 : Fr F0 H3 (upd H3 p.mo (.ins CM dx (fM p.fv p.ho m.ser s' nv' p.ea p.na (co + 1)))) := fr_upd ho3 fun _ z => by cases z
  have f14 := f2.trans (f3.trans f4)
  have f04 := (fr_same (B := F0) s1).trans f14
  have up : ∀ b u, b ≠ p.mo → b ≠ p.ho → H1 b = some u → upd H3 p.mo (.ins CM dx (fM p.fv p.ho m.ser s' nv' p.ea p.na (co + 1))) b = some u := fun b u m1 m2 z => by
    rw [upd_ne m1]
    exact k3 _ _ m2 (k2 _ _ m1 z)
  refine q met cs' stk' n' { p with hd := d', sa := s' } nv' _ hcol ⟨d', s', rfl, nd0, hs'⟩ (fun b u m1 m2 _ _ _ _ z => up b u m1 m2 (s1 _ _ z)) ⟨?_, ⟨dx, upd_same⟩, ?_, ⟨rs, up _ _ nss nhs hrs, hrsA.keep f14⟩, ⟨es, up _ _ n4.symm n8.symm (s1 _ _ hes), hesA.keep f04⟩, ⟨ns, up _ _ n5.symm n9.symm (s1 _ _ hns), hnsA.keep f04⟩⟩ ?_
  · exact ⟨n1, ne_of_none ho nd0, nss.symm, n4, n5, ne_of_none hho nd0, nhs.symm, n8, n9, nds, (ne_of_none hes nd0).symm, (ne_of_none hns nd0).symm, (ne_of_none hes hs').symm, (ne_of_none hns hs').symm, n15⟩
  · obtain ⟨⟨dz, g1⟩, kv3, g2, g3⟩ := hA3
    refine ⟨⟨dz, by rw [upd_ne n1.symm]; exact g1⟩, kv3, ?_, g3.keep f4⟩
    show upd _ _ _ d' = _
    rw [upd_ne (ne_of_none ho nd0).symm]
    exact g2
  · have hr' : n'.run = true := by
      obtain ⟨vs, _, rfl⟩ := hcol.n
      have := hok.run
      revert this
      cases n <;> intro h <;> first | rfl | cases h
    have hat := Nw.at_of hn1 hr'
    have := Dd.At.keep f14 hat
    rw [Nw.th_D] at this
    revert this hr'
    cases n' <;> intro h1 h2 <;> first | exact h2 | (exact h1) | cases h1
end
end Toy

set_option Elab.async false
set_option linter.all false
set_option maxRecDepth 100000
set_option maxHeartbeats 4000000
/-! Part Y: a machine that collects against one that never does, in plain Lean: how their heaps stand to each other. -/
namespace Toy
open PySem L2
inductive WR (A : Nat → Nat → Prop) (cs : List Cl) : Int → Int → Prop
  | odd {k : Int} : WR A cs (2 * k + 1) (2 * k + 1)
  | cell {a b : Nat} : A a b → WR A cs (2 * (a : Int)) (2 * (b : Int))
  | on {a : Nat} {v w' : Int} : cs[a]? = some (.on v) → WR A cs v w' → WR A cs (2 * (a : Int)) w'
inductive WRs (A : Nat → Nat → Prop) (cs : List Cl) : List Int → List Int → Prop
  | nil : WRs A cs [] []
  | cons {w w' : Int} {l l' : List Int} : WR A cs w w' → WRs A cs l l' → WRs A cs (w :: l) (w' :: l')
def OnSub (cs cs' : List Cl) : Prop := ∀ (a : Nat) (v : Int), cs[a]? = some (.on v) → cs'[a]? = some (.on v)
section
variable {A A' : Nat → Nat → Prop} {cs cs' : List Cl}
theorem WR.mono {w w' : Int} (h : WR A cs w w') (hA : ∀ a b, A a b → A' a b) (ho : OnSub cs cs') : WR A' cs' w w' := by
  induction h with
  | odd => exact .odd
  | cell h => exact .cell (hA _ _ h)
  | on h _ ih => exact .on (ho _ _ h) ih
theorem WRs.mono {l l' : List Int} (h : WRs A cs l l') (hA : ∀ a b, A a b → A' a b) (ho : OnSub cs cs') : WRs A' cs' l l' := by
  induction h with
  | nil => exact .nil
  | cons h _ ih => exact .cons (h.mono hA ho) ih
theorem WRs.len {l l' : List Int} (h : WRs A cs l l') : l'.length = l.length := by
  induction h with
  | nil => rfl
  | cons _ _ ih => rw [List.length_cons, List.length_cons, ih]
theorem WRs.app {l l' k k' : List Int} (h : WRs A cs l l') (g : WRs A cs k k') : WRs A cs (l ++ k) (l' ++ k') := by
  induction h with
  | nil => exact g
  | cons h _ ih => exact .cons h ih
theorem WRs.one {w w' : Int} (h : WR A cs w w') : WRs A cs [w] [w'] := .cons h .nil
theorem WRs.get {l l' : List Int} (h : WRs A cs l l') : ∀ {i : Nat} {w : Int}, l[i]? = some w → ∃ w', l'[i]? = some w' ∧ WR A cs w w' := by
  induction h with
  | nil => intro i w e; simp at e
  | cons h _ ih =>
    intro i w e
    cases i with
    | zero => cases e; exact ⟨_, rfl, h⟩
    | succ i => exact ih (i := i) e
theorem WRs.take {l l' : List Int} (h : WRs A cs l l') : ∀ n : Nat, WRs A cs (l.take n) (l'.take n) := by
  induction h with
  | nil => intro n; rw [List.take_nil]; exact .nil
  | cons h _ ih =>
    intro n
    cases n with
    | zero => exact .nil
    | succ n => exact .cons h (ih n)
theorem WRs.drop {l l' : List Int} (h : WRs A cs l l') : ∀ n : Nat, WRs A cs (l.drop n) (l'.drop n) := by
  induction h with
  | nil => intro n; rw [List.drop_nil]; exact .nil
  | cons h hs ih =>
    intro n
    cases n with
    | zero => exact .cons h hs
    | succ n => exact ih n
end
/-! ### code whose global addresses are functions -/
mutual
def GlD (gc : Nat) : Dd → Prop
  | .tup l => (∀ i : Int, l = [.str "global", .int i] → 0 ≤ i ∧ i < (gc : Int)) ∧ GlDs gc l
  | _ => True
def GlDs (gc : Nat) : List Dd → Prop
  | [] => True
  | d :: l => GlD gc d ∧ GlDs gc l
end
theorem GlDs.mem {gc : Nat} : ∀ {l : List Dd} {d : Dd}, GlDs gc l → d ∈ l → GlD gc d
  | [], _, _, h => absurd h List.not_mem_nil
  | x :: l, d, h, hd => by
    rcases List.mem_cons.mp hd with e | e
    · rw [e]; exact h.1
    · exact h.2.mem e
theorem GlD.mem {gc : Nat} {l : List Dd} {d : Dd} (h : GlD gc (.tup l)) (hd : d ∈ l) : GlD gc d := h.2.mem hd
def CR (gc : Nat) (A : Nat → Nat → Prop) (cs : List Cl) : Cl → Cl → Prop
  | .lat b ws s, c => ∃ ws', c = .lat b ws' s ∧ GlD gc b ∧ WRs A cs ws ws'
  | .part i ws, c => ∃ ws', c = .part i ws' ∧ WRs A cs ws ws'
  | .con t ws, c => ∃ ws', c = .con t ws' ∧ WRs A cs ws ws'
  | .on v, c => ∃ v', c = .on v' ∧ WR A cs v v'
  | .hole, c => c = .hole
theorem CR.mono {gc : Nat} {A A' : Nat → Nat → Prop} {cs cs' : List Cl} {c c' : Cl} (h : CR gc A cs c c') (hA : ∀ a b, A a b → A' a b) (ho : OnSub cs cs') : CR gc A' cs' c c' := by
  cases c with
  | lat b ws s => obtain ⟨ws', e, g, r⟩ := h; exact ⟨ws', e, g, r.mono hA ho⟩
  | part i ws => obtain ⟨ws', e, r⟩ := h; exact ⟨ws', e, r.mono hA ho⟩
  | con t ws => obtain ⟨ws', e, r⟩ := h; exact ⟨ws', e, r.mono hA ho⟩
  | on v => obtain ⟨v', e, r⟩ := h; exact ⟨v', e, r.mono hA ho⟩
  | hole => exact h
theorem CR.size {gc : Nat} {A : Nat → Nat → Prop} {cs : List Cl} {c c' : Cl} (h : CR gc A cs c c') : c'.size = c.size := by
  cases c with
  | lat b ws s => obtain ⟨ws', rfl, _, r⟩ := h; show max 2 (1 + ws'.length) = max 2 (1 + ws.length); rw [r.len]
  | part i ws => obtain ⟨ws', rfl, r⟩ := h; show 1 + ws'.length = 1 + ws.length; rw [r.len]
  | con t ws => obtain ⟨ws', rfl, r⟩ := h; show 1 + ws'.length = 1 + ws.length; rw [r.len]
  | on v => obtain ⟨v', rfl, r⟩ := h; rfl
  | hole => cases (show c' = .hole from h); rfl
inductive CRs (gc : Nat) (A : Nat → Nat → Prop) (cs : List Cl) : List Cl → List Cl → Prop
  | nil : CRs gc A cs [] []
  | cons {c c' : Cl} {l l' : List Cl} : CR gc A cs c c' → CRs gc A cs l l' → CRs gc A cs (c :: l) (c' :: l')
theorem CRs.len {gc : Nat} {A : Nat → Nat → Prop} {cs : List Cl} {l l' : List Cl} (h : CRs gc A cs l l') : l'.length = l.length := by
  induction h with
  | nil => rfl
  | cons _ _ ih => rw [List.length_cons, List.length_cons, ih]
theorem CRs.used {gc : Nat} {A : Nat → Nat → Prop} {cs : List Cl} {l l' : List Cl} (h : CRs gc A cs l l') : used l' = used l := by
  induction h with
  | nil => rfl
  | @cons c c' l l' h _ ih =>
    show (c'.size : Int) + Toy.used l' = (c.size : Int) + Toy.used l
    rw [ih, h.size]
theorem CRs.get {gc : Nat} {A : Nat → Nat → Prop} {cs : List Cl} {l l' : List Cl} (h : CRs gc A cs l l') : ∀ {i : Nat}, i < l.length → ∃ c c', l[i]? = some c ∧ l'[i]? = some c' ∧ CR gc A cs c c' := by
  induction h with
  | nil => intro i hi; exact absurd hi (Nat.not_lt_zero _)
  | cons h _ ih =>
    intro i hi
    cases i with
    | zero => exact ⟨_, _, rfl, rfl, h⟩
    | succ i => exact ih (i := i) (by rw [List.length_cons] at hi; omega)
/-- how the heaps stand to each other -/
structure HR (gc : Nat) (A : Nat → Nat → Prop) (cs cs' : List Cl) : Prop where
  fn : ∀ a b b', A a b → A a b' → b = b'
  inj : ∀ a a' b, A a b → A a' b → a = a'
  dom : ∀ a b, A a b → a < cs.length ∧ b < cs'.length
  sur : ∀ b, b < cs'.length → ∃ a, A a b
  glob : ∀ i, i < gc → A i i
  cells : ∀ a b, A a b → ∃ c c', cs[a]? = some c ∧ cs'[b]? = some c' ∧ CR gc A cs c c'
  used : used cs' ≤ used cs
  len : cs'.length ≤ cs.length
def extA (A : Nat → Nat → Prop) (l l' k : Nat) (a b : Nat) : Prop := A a b ∨ ∃ i, i < k ∧ a = l + i ∧ b = l' + i
theorem onSub_app (cs cl : List Cl) : OnSub cs (cs ++ cl) := fun a v h => by
  rw [List.getElem?_append_left (List.getElem?_eq_some_iff.mp h).1]
  exact h
theorem onSub_set {cs : List Cl} {a : Nat} {c c0 : Cl} (h : cs[a]? = some c0) (n : ∀ v, c0 ≠ .on v) : OnSub cs (cs.set a c) := fun x v e => by
  rw [List.getElem?_set_ne]
  · exact e
  · intro z
    subst z
    rw [h] at e
    exact n v (Option.some.inj e)
theorem HR.app {gc : Nat} {A : Nat → Nat → Prop} {cs cs' cl cl' : List Cl} (h : HR gc A cs cs') (hc : CRs gc (extA A cs.length cs'.length cl.length) (cs ++ cl) cl cl') : HR gc (extA A cs.length cs'.length cl.length) (cs ++ cl) (cs' ++ cl') := by
  have hl := hc.len
  refine ⟨?_, ?_, ?_, ?_, fun i hi => .inl (h.glob i hi), ?_, ?_, ?_⟩
  · rintro a b b' (h1 | ⟨i, hi, e1, e2⟩) (h2 | ⟨j, hj, e3, e4⟩)
    · exact h.fn _ _ _ h1 h2
    · have := (h.dom _ _ h1).1; omega
    · have := (h.dom _ _ h2).1; omega
    · omega
  · rintro a a' b (h1 | ⟨i, hi, e1, e2⟩) (h2 | ⟨j, hj, e3, e4⟩)
    · exact h.inj _ _ _ h1 h2
    · have := (h.dom _ _ h1).2; omega
    · have := (h.dom _ _ h2).2; omega
    · omega
  · rintro a b (h1 | ⟨i, hi, e1, e2⟩)
    · have := h.dom _ _ h1
      rw [List.length_append, List.length_append]
      omega
    · rw [List.length_append, List.length_append]
      omega
  · intro b hb
    rw [List.length_append] at hb
    by_cases c : b < cs'.length
    · obtain ⟨a, ha⟩ := h.sur b c
      exact ⟨a, .inl ha⟩
    · exact ⟨cs.length + (b - cs'.length), .inr ⟨b - cs'.length, by omega, rfl, by omega⟩⟩
  · rintro a b (h1 | ⟨i, hi, rfl, rfl⟩)
    · obtain ⟨c, c', g1, g2, g3⟩ := h.cells a b h1
      refine ⟨c, c', ?_, ?_, g3.mono (fun _ _ z => .inl z) (onSub_app _ _)⟩
      · rw [List.getElem?_append_left (List.getElem?_eq_some_iff.mp g1).1]; exact g1
      · rw [List.getElem?_append_left (List.getElem?_eq_some_iff.mp g2).1]; exact g2
    · obtain ⟨c, c', g1, g2, g3⟩ := hc.get hi
      refine ⟨c, c', ?_, ?_, g3⟩
      · rw [List.getElem?_append_right (Nat.le_add_right _ _), Nat.add_sub_cancel_left]; exact g1
      · rw [List.getElem?_append_right (Nat.le_add_right _ _), Nat.add_sub_cancel_left]; exact g2
  · rw [used_app, used_app, hc.used]
    have := h.used
    omega
  · rw [List.length_append, List.length_append, hl]
    have := h.len
    omega
theorem HR.set {gc : Nat} {A : Nat → Nat → Prop} {cs cs' : List Cl} {a b : Nat} {c0 c c' : Cl} (h : HR gc A cs cs') (hab : A a b) (h0 : cs[a]? = some c0) (n : ∀ v, c0 ≠ .on v) (hc : CR gc A (cs.set a c) c c') : HR gc A (cs.set a c) (cs'.set b c') := by
  have ho := onSub_set (c := c) h0 n
  obtain ⟨d, d', g1, g2, g3⟩ := h.cells a b hab
  rw [h0] at g1
  cases g1
  obtain ⟨hal, hbl⟩ := h.dom a b hab
  refine ⟨h.fn, h.inj, fun x y z => by rw [List.length_set, List.length_set]; exact h.dom x y z, fun y hy => h.sur y (by rw [List.length_set] at hy; exact hy), h.glob, fun x y hxy => ?_, ?_, by rw [List.length_set, List.length_set]; exact h.len⟩
  · by_cases e : x = a
    · subst e
      have := h.fn _ _ _ hxy hab
      subst this
      refine ⟨c, c', ?_, ?_, hc⟩
      · rw [List.getElem?_set_self hal]
      · rw [List.getElem?_set_self hbl]
    · have e2 : y ≠ b := fun z => e (by subst z; exact h.inj _ _ _ hxy hab)
      obtain ⟨d2, d2', k1, k2, k3⟩ := h.cells x y hxy
      exact ⟨d2, d2', by rw [List.getElem?_set_ne (Ne.symm e)]; exact k1, by rw [List.getElem?_set_ne (Ne.symm e2)]; exact k2, k3.mono (fun _ _ z => z) ho⟩
  · rw [used_set h0, used_set g2, hc.size, g3.size]
    have := h.used
    omega
/-! ### operands, members -/
section
variable {gc : Nat} {A : Nat → Nat → Prop} {cs : List Cl}
theorem op_sim {o : Dd} {ws ws' : List Int} {w : Int} (h : OpS o ws w) (g : GlD gc o) (r : WRs A cs ws ws') (hg : ∀ i, i < gc → A i i) : ∃ w', OpS o ws' w' ∧ WR A cs w w' := by
  cases h with
  | slot e =>
    obtain ⟨w', e', r'⟩ := r.get e
    exact ⟨w', .slot e', r'⟩
  | @glob i =>
    obtain ⟨h0, h1⟩ := g.1 i rfl
    obtain ⟨k, rfl⟩ : ∃ k : Nat, i = (k : Int) := ⟨i.toNat, by omega⟩
    exact ⟨_, .glob, .cell (hg k (by omega))⟩
  | num => exact ⟨_, .num, .odd⟩
theorem ops_sim {os : List Dd} {ws ws' vs : List Int} (h : OpsS os ws vs) (r : WRs A cs ws ws') (hg : ∀ i, i < gc → A i i) : GlDs gc os → ∃ vs', OpsS os ws' vs' ∧ WRs A cs vs vs' := by
  induction h with
  | nil => exact fun _ => ⟨[], .nil, .nil⟩
  | cons h1 _ ih =>
    intro g
    obtain ⟨w', h2, r2⟩ := op_sim h1 g.1 r hg
    obtain ⟨vs', h3, r3⟩ := ih r g.2
    exact ⟨_, .cons h2 h3, .cons r2 r3⟩
theorem mb_sim {k : Dd} {ws ws' : List Int} {s s' : Int} {c : Cl} (h : MbS k ws s c s') (g : GlD gc k) (r : WRs A cs ws ws') (hg : ∀ i, i < gc → A i i) : ∃ c', MbS k ws' s c' s' ∧ CR gc A cs c c' := by
  cases h with
  | @lat os b _ vs _ h hl =>
    obtain ⟨vs', h2, r2⟩ := ops_sim h r hg (g.mem (d := .tup os) (by simp)).2
    exact ⟨_, .lat h2 hl, vs', rfl, g.mem (by simp), r2⟩
  | @cp c i os _ vs _ h hl =>
    obtain ⟨vs', h2, r2⟩ := ops_sim h r hg (g.mem (d := .tup os) (by simp)).2
    refine ⟨_, .cp h2 hl, ?_⟩
    cases c
    · exact ⟨vs', rfl, r2⟩
    · exact ⟨vs', rfl, r2⟩
theorem mbs_sim {ks : List Dd} {ws ws' : List Int} {s s' : Int} {cl : List Cl} (h : MbsS ks ws s cl s') (r : WRs A cs ws ws') (hg : ∀ i, i < gc → A i i) : GlDs gc ks → ∃ cl', MbsS ks ws' s cl' s' ∧ CRs gc A cs cl cl' := by
  induction h with
  | nil => exact fun _ => ⟨[], .nil, .nil⟩
  | cons h1 _ ih =>
    intro g
    obtain ⟨c', h2, r2⟩ := mb_sim h1 g.1 r hg
    obtain ⟨cl', h3, r3⟩ := ih r g.2
    exact ⟨_, .cons h2 h3, .cons r2 r3⟩
theorem lets_sim {l l' : Nat} : ∀ k : Nat, (∀ i, i < k → A (l + i) (l' + i)) → WRs A cs (lets l k) (lets l' k)
  | 0, _ => .nil
  | k + 1, h => by
    unfold lets
    rw [List.range_succ, List.map_append, List.map_append]
    exact (lets_sim k fun i hi => h i (by omega)).app (.one (.cell (h k (by omega))))
end
end Toy

set_option Elab.async false
set_option linter.all false
set_option maxRecDepth 100000
set_option maxHeartbeats 4000000
/-! Part Z: steps of the one are steps of the other. -/
namespace Toy
open PySem L2
/-! ### what holds of a machine that never collects -/
def ValW (cs : List Cl) (w : Int) : Prop := (∃ k : Int, w = 2 * k + 1) ∨ ∃ (a : Nat) (c : Cl), w = 2 * (a : Int) ∧ cs[a]? = some c ∧ (c.word = "con" ∨ c.word = "part")
def isVal (c : Cl) : Prop := c.word = "con" ∨ c.word = "part"
def updAs : List Fm → List Int
  | [] => []
  | .upd a :: l => a :: updAs l
  | _ :: l => updAs l
theorem updAs_app : ∀ l k : List Fm, updAs (l ++ k) = updAs l ++ updAs k
  | [], k => rfl
  | f :: l, k => by
    cases f <;> show updAs _ = _ <;> simp only [List.cons_append, updAs, updAs_app l k]
structure POk (m : Mc) (n : Nw) : Prop where
  d : (updAs m.stk).Nodup
  h : ∀ a ∈ updAs m.stk, ∃ k : Nat, a = (k : Int) ∧ m.cs[k]? = some .hole
  o : ∀ (a : Nat) (v : Int), m.cs[a]? = some (.on v) → ValW m.cs v
  n : ∀ w, n = .val w → ValW m.cs w
theorem ValW.mono {cs cs' : List Cl} {w : Int} (h : ValW cs w) (k : ∀ (a : Nat) (c : Cl), cs[a]? = some c → isVal c → cs'[a]? = some c) : ValW cs' w := h.imp id fun ⟨a, c, e, h1, h2⟩ => ⟨a, c, e, k a c h1 h2, h2⟩
theorem keep_app (cs cl : List Cl) : ∀ (a : Nat) (c : Cl), cs[a]? = some c → isVal c → (cs ++ cl)[a]? = some c := fun a c h _ => by
  rw [List.getElem?_append_left (List.getElem?_eq_some_iff.mp h).1]
  exact h
theorem keep_set {cs : List Cl} {i : Nat} {c0 c1 : Cl} (h : cs[i]? = some c0) (n : ¬ isVal c0) : ∀ (a : Nat) (c : Cl), cs[a]? = some c → isVal c → (cs.set i c1)[a]? = some c := fun a c e hv => by
  rw [List.getElem?_set_ne]
  · exact e
  · intro z
    subst z
    rw [h] at e
    cases e
    exact n hv
theorem no_lat {b : Dd} {ws : List Int} {s : Int} : ¬ isVal (.lat b ws s) := fun h => by
  rcases h with h | h
  · exact absurd (show ("later" : Str) = "con" from h) (by decide +kernel)
  · exact absurd (show ("later" : Str) = "part" from h) (by decide +kernel)
theorem no_hole : ¬ isVal .hole := fun h => by
  rcases h with h | h
  · exact absurd (show ("hole" : Str) = "con" from h) (by decide +kernel)
  · exact absurd (show ("hole" : Str) = "part" from h) (by decide +kernel)
theorem no_on {v : Int} : ¬ isVal (.on v) := fun h => by
  rcases h with h | h
  · exact absurd (show ("on" : Str) = "con" from h) (by decide +kernel)
  · exact absurd (show ("on" : Str) = "part" from h) (by decide +kernel)
/-- only what it does and its stack without update frames change -/
theorem POk.go {m m' : Mc} {n n' : Nw} (h : POk m n) (e1 : m'.cs = m.cs) (e2 : (updAs m'.stk).Sublist (updAs m.stk)) (hn : ∀ w, n' = .val w → ValW m'.cs w) : POk m' n' :=
  ⟨h.d.sublist e2, fun a ha => by rw [e1]; exact h.h a (e2.mem ha), fun a v e => by rw [e1] at e ⊢; exact h.o a v e, hn⟩
theorem POk.cell {m m' : Mc} {n n' : Nw} {cl : List Cl} (h : POk m n) (e1 : m'.cs = m.cs ++ cl) (ho : ∀ c ∈ cl, ∀ v, c ≠ .on v) (e2 : (updAs m'.stk).Sublist (updAs m.stk)) (hn : ∀ w, n' = .val w → ValW m'.cs w) : POk m' n' := by
  refine ⟨h.d.sublist e2, fun a ha => ?_, fun a v e => ?_, hn⟩
  · obtain ⟨k, hk, hh⟩ := h.h a (e2.mem ha)
    exact ⟨k, hk, by rw [e1, List.getElem?_append_left (List.getElem?_eq_some_iff.mp hh).1]; exact hh⟩
  · rw [e1] at e ⊢
    by_cases c : a < m.cs.length
    · rw [List.getElem?_append_left c] at e
      exact (h.o a v e).mono (keep_app _ _)
    · rw [List.getElem?_append_right (by omega)] at e
      exact absurd rfl (ho _ (List.mem_of_getElem? e) v)
theorem sub_refl {l : List Int} : l.Sublist l := List.Sublist.refl l
theorem upd_push {l : List Fm} {f : Fm} (h : ∀ a, f ≠ .upd a) : updAs (l ++ [f]) = updAs l := by
  rw [updAs_app]
  cases f with
  | upd a => exact absurd rfl (h a)
  | _ => exact List.append_nil _
theorem new_val {cs : List Cl} {c : Cl} (h : isVal c) : ValW (cs ++ [c]) (2 * (cs.length : Int)) := .inr ⟨cs.length, c, rfl, by rw [List.getElem?_append_right (Nat.le_refl _), Nat.sub_self]; rfl, h⟩
theorem mbs_on {ks : List Dd} {ws : List Int} {s s' : Int} {cl : List Cl} (h : MbsS ks ws s cl s') : ∀ c ∈ cl, ∀ v, c ≠ .on v := by
  induction h with
  | nil => exact fun c h => absurd h List.not_mem_nil
  | cons h _ ih =>
    intro c hc v
    rcases List.mem_cons.mp hc with e | e
    · rw [e]
      cases h with
      | lat => exact fun z => by cases z
      | @cp b => cases b <;> exact fun z => by cases z
    · exact ih c e v
theorem vl_val {w : Int} {m : Mc} {c : Cl} (h : VlS w m (.cell c)) : ∃ a : Nat, w = 2 * (a : Int) ∧ m.cs[a]? = some c := by
  cases h with
  | even h => exact ⟨_, rfl, h⟩
theorem pok_step {fs : List (Int × Dd)} {n n' : Nw} {m m' : Mc} (h : StS fs n m n' m') (p : POk m n) : POk m' n' := by
  have none : ∀ {x : Nw}, (∀ w, x ≠ .val w) → ∀ {cs : List Cl} w, x = .val w → ValW cs w := fun hx cs w e => absurd e (hx w)
  cases h with
  | enter h =>
    cases h with
    | @odd k => exact p.go rfl sub_refl fun w e => by cases e; exact .inl ⟨k, rfl⟩
    | @val a _ c h1 h2 => exact p.go rfl sub_refl fun w e => by cases e; exact .inr ⟨a, c, rfl, h1, h2⟩
    | on h1 => exact p.go rfl sub_refl fun w e => by cases e
    | hole h1 => exact p.go rfl sub_refl fun w e => by cases e
    | @lat a _ b ws s h1 =>
      have hal := (List.getElem?_eq_some_iff.mp h1).1
      have hno : (a : Int) ∉ updAs m.stk := fun z => by
        obtain ⟨k, e, hk⟩ := p.h _ z
        have : k = a := by omega
        rw [this, h1] at hk
        cases hk
      have hu : updAs (m.stk ++ [.upd (a : Int)]) = updAs m.stk ++ [(a : Int)] := by rw [updAs_app]; rfl
      refine ⟨?_, fun x hx => ?_, fun x v e => ?_, fun w e => by cases e⟩
      · show (updAs (m.stk ++ [.upd (a : Int)])).Nodup
        rw [hu]
        exact List.nodup_append.mpr ⟨p.d, List.nodup_cons.mpr ⟨List.not_mem_nil, List.nodup_nil⟩, fun x hx y hy => by rw [List.mem_singleton.mp hy]; exact fun z => hno (z ▸ hx)⟩
      · have hx : x ∈ updAs (m.stk ++ [.upd (a : Int)]) := hx
        rw [hu] at hx
        rcases List.mem_append.mp hx with hx | hx
        · obtain ⟨k, e, hk⟩ := p.h _ hx
          refine ⟨k, e, ?_⟩
          by_cases c : k = a
          · subst c
            show (m.cs.set k .hole)[k]? = _
            rw [List.getElem?_set_self hal]
          · show (m.cs.set a .hole)[k]? = _
            rw [List.getElem?_set_ne (Ne.symm c)]
            exact hk
        · exact ⟨a, List.mem_singleton.mp hx, by show (m.cs.set a .hole)[a]? = _; rw [List.getElem?_set_self hal]⟩
      · have e : (m.cs.set a .hole)[x]? = some (.on v) := e
        by_cases c : x = a
        · subst c
          rw [List.getElem?_set_self hal] at e
          cases e
        · rw [List.getElem?_set_ne (Ne.symm c)] at e
          exact (p.o x v e).mono (keep_set h1 no_lat)
  | eval h =>
    cases h with
    | give _ => exact p.go rfl sub_refl fun w e => by cases e
    | call _ _ _ => exact p.go rfl (by show (updAs (_ ++ [_])).Sublist _; rw [upd_push fun a z => by cases z]; exact sub_refl) fun w e => by cases e
    | @con t os ws vs _ _ _ => exact p.cell (cl := [.con t vs]) rfl (fun c hc v => by rw [List.mem_singleton.mp hc]; exact fun z => by cases z) sub_refl fun w e => by cases e; exact new_val (c := .con t vs) (.inl rfl)
    | prim _ _ => exact p.go rfl (by show (updAs (_ ++ [_])).Sublist _; rw [upd_push fun a z => by cases z]; exact sub_refl) fun w e => by cases e
    | @lt ms b ws _ cl s' h1 _ _ => exact p.cell (cl := cl) rfl (mbs_on h1) sub_refl fun w e => by cases e
    | seq => exact p.go rfl (by show (updAs (_ ++ [_])).Sublist _; rw [upd_push fun a z => by cases z]; exact sub_refl) fun w e => by cases e
    | ch => exact p.go rfl (by show (updAs (_ ++ [_])).Sublist _; rw [upd_push fun a z => by cases z]; exact sub_refl) fun w e => by cases e
    | note => exact p.go rfl sub_refl fun w e => by cases e
  | @val w f stk _ _ _ l hst hl h =>
    have hu : (updAs stk).Sublist (updAs m.stk) := by rw [hst, updAs_app]; exact List.sublist_append_left _ _
    have push : ∀ {g : Fm}, (∀ a, g ≠ .upd a) → (updAs (stk ++ [g])).Sublist (updAs m.stk) := fun hg => by rw [upd_push hg]; exact hu
    have hw := p.n w rfl
    cases h with
    | showEnd _ => exact p.go rfl hu fun w e => by cases e
    | showCons _ => exact p.go rfl (push fun a z => by cases z) fun w e => by cases e
    | showBad _ _ _ => exact p.go rfl hu fun w e => by cases e
    | showNo _ _ => exact p.go rfl hu fun w e => by cases e
    | head _ => exact p.go rfl (push fun a z => by cases z) fun w e => by cases e
    | headNo _ _ => exact p.go rfl hu fun w e => by cases e
    | @upd _ a _ c h1 =>
      have hm : updAs m.stk = updAs stk ++ [(a : Int)] := by rw [hst, updAs_app]; rfl
      have hd := p.d
      rw [hm] at hd
      obtain ⟨hd1, _, hd3⟩ := List.nodup_append.mp hd
      have hno : (a : Int) ∉ updAs stk := fun z => hd3 _ z _ (List.mem_singleton.mpr rfl) rfl
      obtain ⟨k, e, hk⟩ := p.h (a : Int) (by rw [hm]; exact List.mem_append_right _ (List.mem_singleton.mpr rfl))
      obtain rfl : k = a := by omega
      have hal := (List.getElem?_eq_some_iff.mp hk).1
      have hw2 : ValW (m.cs.set k (.on w)) w := hw.mono (keep_set hk no_hole)
      refine ⟨hd1, fun x hx => ?_, fun x v e => ?_, fun w' e => by cases e; exact hw2⟩
      · obtain ⟨j, e, hj⟩ := p.h x (hu.mem hx)
        refine ⟨j, e, ?_⟩
        have : j ≠ k := fun z => hno (by rw [← z, ← e]; exact hx)
        show (m.cs.set k (.on w))[j]? = _
        rw [List.getElem?_set_ne (Ne.symm this)]
        exact hj
      · have e : (m.cs.set k (.on w))[x]? = some (.on v) := e
        by_cases c : x = k
        · subst c
          rw [List.getElem?_set_self hal] at e
          cases e
          exact hw2
        · rw [List.getElem?_set_ne (Ne.symm c)] at e
          exact (p.o x v e).mono (keep_set hk no_hole)
    | @part _ ar i b vs ws _ _ _ _ _ => exact p.cell (cl := [.part (i : Int) (vs ++ ws)]) rfl (fun c hc v => by rw [List.mem_singleton.mp hc]; exact fun z => by cases z) hu fun w e => by cases e; exact new_val (c := .part (i : Int) (vs ++ ws)) (.inr rfl)
    | full _ _ _ _ => exact p.go rfl hu fun w e => by cases e
    | over _ _ _ _ => exact p.go rfl (push fun a z => by cases z) fun w e => by cases e
    | applyNo _ _ => exact p.go rfl hu fun w e => by cases e
    | case _ _ _ _ _ => exact p.go rfl hu fun w e => by cases e
    | caseD _ _ _ _ hd => cases hd <;> exact p.go rfl hu fun w e => by cases e
    | caseNo _ _ => exact p.go rfl hu fun w e => by cases e
    | pick _ _ _ _ => exact p.go rfl hu fun w e => by cases e
    | pickD _ _ _ _ hd => cases hd <;> exact p.go rfl hu fun w e => by cases e
    | pickNo _ _ => exact p.go rfl hu fun w e => by cases e
    | seq _ => exact p.go rfl hu fun w e => by cases e
    | right _ _ _ => exact p.go rfl (push fun a z => by cases z) fun w e => by cases e
    | rightNo _ _ => exact p.go rfl hu fun w e => by cases e
    | @primT _ i j s b _ _ _ _ _ _ => exact p.cell (cl := [.con (if b = true then 1 else 0) []]) rfl (fun c hc v => by rw [List.mem_singleton.mp hc]; exact fun z => by cases z) hu fun w e => by cases e; exact new_val (c := .con (if b = true then 1 else 0) []) (.inl rfl)
    | @primN _ i j x s _ _ _ _ _ _ => exact p.go rfl hu fun w e => by cases e; exact .inl ⟨x, rfl⟩
    | primF _ _ _ _ _ _ => exact p.go rfl hu fun w e => by cases e
    | primNo _ _ => exact p.go rfl hu fun w e => by cases e
end Toy

set_option Elab.async false
set_option linter.all false
set_option maxRecDepth 100000
set_option maxHeartbeats 4000000
/-! Part A: one step. -/
namespace Toy
open PySem L2
def FR (gc : Nat) (A : Nat → Nat → Prop) (cs : List Cl) : Fm → Fm → Prop
  | .show, f => f = .show
  | .head w, f => ∃ w', f = .head w' ∧ WR A cs w w'
  | .upd a, f => ∃ i j : Nat, a = (i : Int) ∧ f = .upd (j : Int) ∧ A i j
  | .apply ws, f => ∃ ws', f = .apply ws' ∧ WRs A cs ws ws'
  | .ch c rows d ws, f => ∃ ws', f = .ch c rows d ws' ∧ GlDs gc rows ∧ GlD gc d ∧ WRs A cs ws ws'
  | .seq b ws, f => ∃ ws', f = .seq b ws' ∧ GlD gc b ∧ WRs A cs ws ws'
  | .right s o ws, f => ∃ ws', f = .right s o ws' ∧ GlD gc o ∧ WRs A cs ws ws'
  | .prim s n, f => f = .prim s n
def NR (gc : Nat) (A : Nat → Nat → Prop) (cs : List Cl) : Nw → Nw → Prop
  | .enter w, n => ∃ w', n = .enter w' ∧ WR A cs w w'
  | .eval b ws, n => ∃ ws', n = .eval b ws' ∧ GlD gc b ∧ WRs A cs ws ws'
  | .val w, n => ∃ w', n = .val w' ∧ WR A cs w w'
  | .fin, n => n = .fin
  | .fault s, n => n = .fault s
  | .loop, n => n = .loop
  | .stuck, n => n = .stuck
  | .full, n => n = .full
theorem NR.run {gc : Nat} {A : Nat → Nat → Prop} {cs : List Cl} {n n' : Nw} (h : NR gc A cs n n') : n'.run = n.run := by
  cases n with
  | enter w => obtain ⟨w', rfl, _⟩ := h; rfl
  | eval b ws => obtain ⟨w', rfl, _⟩ := h; rfl
  | val w => obtain ⟨w', rfl, _⟩ := h; rfl
  | fin => cases (show n' = .fin from h); rfl
  | fault s => cases (show n' = .fault s from h); rfl
  | loop => cases (show n' = .loop from h); rfl
  | stuck => cases (show n' = .stuck from h); rfl
  | full => cases (show n' = .full from h); rfl
theorem NR.same {gc : Nat} {A : Nat → Nat → Prop} {cs : List Cl} {n n' : Nw} (h : NR gc A cs n n') (hr : n.run = false) : n' = n := by
  cases n with
  | enter w => cases hr
  | eval b ws => cases hr
  | val w => cases hr
  | _ => exact h
inductive FRs (gc : Nat) (A : Nat → Nat → Prop) (cs : List Cl) : List Fm → List Fm → Prop
  | nil : FRs gc A cs [] []
  | cons {f f' : Fm} {l l' : List Fm} : FR gc A cs f f' → FRs gc A cs l l' → FRs gc A cs (f :: l) (f' :: l')
section
variable {gc : Nat} {A A' : Nat → Nat → Prop} {cs cs' : List Cl}
theorem FR.mono {f f' : Fm} (h : FR gc A cs f f') (hA : ∀ a b, A a b → A' a b) (ho : OnSub cs cs') : FR gc A' cs' f f' := by
  cases f with
  | «show» => exact h
  | head w => obtain ⟨w', e, r⟩ := h; exact ⟨w', e, r.mono hA ho⟩
  | upd a => obtain ⟨i, j, e1, e2, r⟩ := h; exact ⟨i, j, e1, e2, hA _ _ r⟩
  | apply ws => obtain ⟨w', e, r⟩ := h; exact ⟨w', e, r.mono hA ho⟩
  | ch c rows d ws => obtain ⟨w', e, g1, g2, r⟩ := h; exact ⟨w', e, g1, g2, r.mono hA ho⟩
  | seq b ws => obtain ⟨w', e, g, r⟩ := h; exact ⟨w', e, g, r.mono hA ho⟩
  | right s o ws => obtain ⟨w', e, g, r⟩ := h; exact ⟨w', e, g, r.mono hA ho⟩
  | prim s n => exact h
theorem FRs.mono {l l' : List Fm} (h : FRs gc A cs l l') (hA : ∀ a b, A a b → A' a b) (ho : OnSub cs cs') : FRs gc A' cs' l l' := by
  induction h with
  | nil => exact .nil
  | cons h _ ih => exact .cons (h.mono hA ho) ih
theorem FRs.len {l l' : List Fm} (h : FRs gc A cs l l') : l'.length = l.length := by
  induction h with
  | nil => rfl
  | cons _ _ ih => rw [List.length_cons, List.length_cons, ih]
theorem FRs.snoc {l l' : List Fm} {f f' : Fm} (h : FRs gc A cs l l') (k : FR gc A cs f f') : FRs gc A cs (l ++ [f]) (l' ++ [f']) := by
  induction h with
  | nil => exact .cons k .nil
  | cons h _ ih => exact .cons h ih
theorem FRs.cut : ∀ {l l' : List Fm} {f : Fm}, FRs gc A cs (l ++ [f]) l' → ∃ k f', l' = k ++ [f'] ∧ FRs gc A cs l k ∧ FR gc A cs f f'
  | [], _, _, h => by
    cases h with
    | cons h1 h2 => cases h2; exact ⟨[], _, rfl, .nil, h1⟩
  | g :: l, _, _, h => by
    cases h with
    | cons h1 h2 =>
      obtain ⟨k, f', rfl, h3, h4⟩ := FRs.cut h2
      exact ⟨_ :: k, f', rfl, .cons h1 h3, h4⟩
end
/-- a machine that collects stands for one that never does -/
structure Sim (gc : Nat) (A : Nat → Nat → Prop) (m : Mc) (n : Nw) (m' : Mc) (n' : Nw) : Prop where
  h : HR gc A m.cs m'.cs
  s : FRs gc A m.cs m.stk m'.stk
  n : NR gc A m.cs n n'
  e : m'.evs = m.evs
  t : m'.ent = m.ent
  r : m'.ser = m.ser
def VR (gc : Nat) (A : Nat → Nat → Prop) (cs : List Cl) : Vl → Vl → Prop
  | .num n, l => l = .num n
  | .cell c, l => ∃ c', l = .cell c' ∧ CR gc A cs c c'
theorem CR.word {gc : Nat} {A : Nat → Nat → Prop} {cs : List Cl} {c c' : Cl} (h : CR gc A cs c c') : c'.word = c.word := by
  cases c with
  | lat b ws s => obtain ⟨ws', rfl, _⟩ := h; rfl
  | part i ws => obtain ⟨ws', rfl, _⟩ := h; rfl
  | con t ws => obtain ⟨ws', rfl, _⟩ := h; rfl
  | on v => obtain ⟨v', rfl, _⟩ := h; rfl
  | hole => cases (show c' = .hole from h); rfl
theorem VR.word {gc : Nat} {A : Nat → Nat → Prop} {cs : List Cl} {l l' : Vl} (h : VR gc A cs l l') : l'.word = l.word := by
  cases l with
  | num n => cases (show l' = .num n from h); rfl
  | cell c => obtain ⟨c', rfl, r⟩ := h; exact r.word
theorem wr_val {gc : Nat} {A : Nat → Nat → Prop} {cs cs' : List Cl} {w w' : Int} (h : HR gc A cs cs') (r : WR A cs w w') (v : ValW cs w) : (∃ k : Int, w = 2 * k + 1 ∧ w' = w) ∨ ∃ (a b : Nat) (c c' : Cl), w = 2 * (a : Int) ∧ w' = 2 * (b : Int) ∧ A a b ∧ cs[a]? = some c ∧ cs'[b]? = some c' ∧ CR gc A cs c c' ∧ isVal c := by
  cases r with
  | @odd k => exact .inl ⟨k, rfl, rfl⟩
  | @cell a b hab =>
    rcases v with ⟨k, e⟩ | ⟨a', c, e, h1, h2⟩
    · omega
    · obtain rfl : a = a' := by omega
      obtain ⟨d, d', g1, g2, g3⟩ := h.cells a b hab
      rw [h1] at g1
      cases g1
      exact .inr ⟨a, b, c, d', rfl, rfl, hab, h1, g2, g3, h2⟩
  | @on a u _ hon _ =>
    rcases v with ⟨k, e⟩ | ⟨a', c, e, h1, h2⟩
    · omega
    · obtain rfl : a = a' := by omega
      rw [hon] at h1
      cases h1
      exact absurd h2 no_on
theorem vl_sim {gc : Nat} {A : Nat → Nat → Prop} {m m' : Mc} {w w' : Int} {l : Vl} (hl : VlS w m l) (h : HR gc A m.cs m'.cs) (r : WR A m.cs w w') (v : ValW m.cs w) : ∃ l', VlS w' m' l' ∧ VR gc A m.cs l l' := by
  rcases wr_val h r v with ⟨k, e1, e2⟩ | ⟨a, b, c, c', e1, e2, hab, h1, h2, h3, _⟩
  · subst e2
    subst e1
    generalize hw : 2 * k + 1 = w at hl
    cases hl with
    | @odd j =>
      exact ⟨_, .odd, rfl⟩
    | even => omega
  · subst e1
    subst e2
    generalize hw : 2 * (a : Int) = w at hl
    cases hl with
    | odd => omega
    | @even a' _ c2 h4 =>
      obtain rfl : a = a' := by omega
      rw [h1] at h4
      cases h4
      exact ⟨_, .even h2, c', rfl, h3⟩
theorem selC_gl {gc : Nat} {t n : Int} {b : Dd} : ∀ {rows : List Dd}, GlDs gc rows → (∀ q ∈ rows, CaseRow q) → selC t n rows = some b → GlD gc b
  | [], _, _, h => by cases h
  | q :: l, g, hc, h => by
    obtain ⟨i, c, k, rfl⟩ := hc q (List.mem_cons_self ..)
    have h : (if i = t ∧ c = n then some k else selC t n l) = some b := h
    split at h
    · cases h
      exact g.1.mem (by simp)
    · exact selC_gl g.2 (fun q hq => hc q (List.mem_cons_of_mem _ hq)) h
theorem selP_gl {gc : Nat} {n : Int} {b : Dd} : ∀ {rows : List Dd}, GlDs gc rows → (∀ q ∈ rows, PickRow q) → selP n rows = some b → GlD gc b
  | [], _, _, h => by cases h
  | q :: l, g, hc, h => by
    obtain ⟨i, k, rfl⟩ := hc q (List.mem_cons_self ..)
    have h : (if i = n then some k else selP n l) = some b := h
    split at h
    · cases h
      exact g.1.mem (by simp)
    · exact selP_gl g.2 (fun q hq => hc q (List.mem_cons_of_mem _ hq)) h
section
variable {fs : List (Int × Dd)} {A : Nat → Nat → Prop} {m m' : Mc} {n : Nw}
theorem df_sim {gc : Nat} {d : Dd} {ws ws' : List Int} {w w' : Int} {n1 : Nw} {m1 : Mc} {stk stk' : List Fm} (h : DfS d ws w { m with stk := stk } n1 m1) (hh : HR gc A m.cs m'.cs) (he : m'.evs = m.evs) (ht : m'.ent = m.ent) (hs : m'.ser = m.ser) (hk : FRs gc A m.cs stk stk') (g : GlD gc d) (r : WRs A m.cs ws ws') (rw' : WR A m.cs w w') : ∃ n1' m1', DfS d ws' w' { m' with stk := stk' } n1' m1' ∧ Sim gc A m1 n1 m1' n1' := by
  cases h with
  | non => exact ⟨_, _, .non, hh, hk, rfl, by show m'.evs ++ _ = m.evs ++ _; rw [he], ht, hs⟩
  | some hd hl => exact ⟨_, _, .some hd (by rw [r.len]; exact hl), hh, hk, ⟨_, rfl, g, r.app (.one rw')⟩, he, ht, hs⟩
/-- a step of the one that never collects is none or one step of the other -/
theorem sim_step {n1 n' : Nw} {m1 : Mc} (hfs : ∀ q ∈ fs, GlD fs.length q.2) (S : Sim fs.length A m n m' n') (p : POk m n) (h : StS fs n m n1 m1) : Sim fs.length A m1 n1 m' n' ∨ ∃ n1' m1' A1, StS fs n' m' n1' m1' ∧ Sim fs.length A1 m1 n1 m1' n1' := by
  obtain ⟨hh, hstk, hn, he, ht, hs⟩ := S
  have hg := hh.glob
  cases h with
  | enter h =>
    obtain ⟨w', rfl, r⟩ := hn
    cases h with
    | @odd k =>
      generalize hw : 2 * k + 1 = w at r
      cases r with
      | @odd j =>
        exact .inr ⟨_, _, A, .enter .odd, hh, hstk, ⟨_, rfl, .odd⟩, he, ht, hs⟩
      | cell => omega
      | on => omega
    | @val a _ c h1 h2 =>
      generalize hw : 2 * (a : Int) = w at r
      cases r with
      | odd => omega
      | @cell a' b hab =>
        obtain rfl : a = a' := by omega
        obtain ⟨d, d', g1, g2, g3⟩ := hh.cells a b hab
        rw [h1] at g1
        cases g1
        exact .inr ⟨_, _, A, .enter (.val g2 (by rw [g3.word]; exact h2)), hh, hstk, ⟨_, rfl, hw ▸ .cell hab⟩, he, ht, hs⟩
      | @on a' u _ hon _ =>
        obtain rfl : a = a' := by omega
        rw [h1] at hon
        cases hon
        exact absurd h2 no_on
    | @on a _ u h1 =>
      generalize hw : 2 * (a : Int) = w at r
      cases r with
      | odd => omega
      | @cell a' b hab =>
        obtain rfl : a = a' := by omega
        obtain ⟨d, d', g1, g2, g3⟩ := hh.cells a b hab
        rw [h1] at g1
        cases g1
        obtain ⟨u', rfl, r⟩ := g3
        exact .inr ⟨_, _, A, .enter (.on g2), hh, hstk, ⟨_, rfl, r⟩, he, ht, hs⟩
      | @on a' u' _ hon r =>
        obtain rfl : a = a' := by omega
        rw [h1] at hon
        cases hon
        exact .inl ⟨hh, hstk, ⟨_, rfl, r⟩, he, ht, hs⟩
    | @hole a _ h1 =>
      generalize hw : 2 * (a : Int) = w at r
      cases r with
      | odd => omega
      | @cell a' b hab =>
        obtain rfl : a = a' := by omega
        obtain ⟨d, d', g1, g2, g3⟩ := hh.cells a b hab
        rw [h1] at g1
        cases g1
        cases (show d' = .hole from g3)
        exact .inr ⟨_, _, A, .enter (.hole g2), hh, hstk, rfl, he, ht, hs⟩
      | @on a' u' _ hon r =>
        obtain rfl : a = a' := by omega
        rw [h1] at hon
        cases hon
    | @lat a _ b ws s h1 =>
      generalize hw : 2 * (a : Int) = w at r
      cases r with
      | odd => omega
      | @cell a' b' hab =>
        obtain rfl : a = a' := by omega
        obtain ⟨d, d', g1, g2, g3⟩ := hh.cells a b' hab
        rw [h1] at g1
        cases g1
        obtain ⟨ws', rfl, gb, rw'⟩ := g3
        have nl : ∀ v, Cl.lat b ws s ≠ .on v := fun v z => by cases z
        have ho := onSub_set (c := .hole) h1 nl
        exact .inr ⟨_, _, A, .enter (.lat g2), hh.set hab h1 nl rfl, (hstk.mono (fun _ _ z => z) ho).snoc ⟨a, b', rfl, rfl, hab⟩, ⟨ws', rfl, gb, rw'.mono (fun _ _ z => z) ho⟩, he, by show m'.ent ++ _ = m.ent ++ _; rw [ht], hs⟩
      | @on a' u' _ hon r =>
        obtain rfl : a = a' := by omega
        rw [h1] at hon
        cases hon
  | @eval z rr ws _ _ _ h =>
    obtain ⟨ws', rfl, gb, r⟩ := hn
    have gr : GlDs fs.length rr := gb.2.2
    cases h with
    | give h1 =>
      obtain ⟨w', h2, r2⟩ := op_sim h1 gr.1 r hg
      exact .inr ⟨_, _, A, .eval (.give h2), hh, hstk, ⟨_, rfl, r2⟩, he, ht, hs⟩
    | call h1 h2 hl =>
      obtain ⟨w', h3, r3⟩ := op_sim h1 gr.1 r hg
      obtain ⟨vs', h4, r4⟩ := ops_sim h2 r hg gr.2.1.2
      exact .inr ⟨_, _, A, .eval (.call h3 h4 hl), hh, hstk.snoc ⟨_, rfl, r4⟩, ⟨_, rfl, r3⟩, he, ht, hs⟩
    | @con t os _ vs _ h2 hl =>
      obtain ⟨vs', h4, r4⟩ := ops_sim h2 r hg gr.2.1.2
      have ho := onSub_app m.cs [.con t vs]
      have hx : ∀ a b, A a b → extA A m.cs.length m'.cs.length 1 a b := fun _ _ z => .inl z
      refine .inr ⟨_, _, extA A m.cs.length m'.cs.length 1, .eval (.con h4 hl), hh.app (cl := [.con t vs]) (cl' := [.con t vs']) (.cons ⟨_, rfl, r4.mono hx ho⟩ .nil), hstk.mono hx ho, ⟨_, rfl, .cell (.inr ⟨0, by decide, rfl, rfl⟩)⟩, he, ht, hs⟩
    | prim h1 hl =>
      obtain ⟨w', h3, r3⟩ := op_sim h1 gr.2.1 r hg
      exact .inr ⟨_, _, A, .eval (.prim h3 hl), hh, hstk.snoc ⟨_, rfl, gr.2.2.1, r⟩, ⟨_, rfl, r3⟩, he, ht, hs⟩
    | @lt ms b _ _ cl s' h1 hl1 hl2 =>
      have hcl := h1.len
      have ho := onSub_app m.cs cl
      have hx : ∀ a b, A a b → extA A m.cs.length m'.cs.length cl.length a b := fun _ _ z => .inl z
      have hl : WRs (extA A m.cs.length m'.cs.length cl.length) (m.cs ++ cl) (lets m.cs.length ms.length) (lets m'.cs.length ms.length) := lets_sim _ fun i hi => .inr ⟨i, by omega, rfl, rfl⟩
      have rr' := (r.mono hx ho).app hl
      obtain ⟨cl', h3, r3⟩ := mbs_sim h1 rr' (fun i hi => hx _ _ (hg i hi)) gr.1.2
      refine .inr ⟨_, _, extA A m.cs.length m'.cs.length cl.length, .eval (.lt (by rw [hs]; exact h3) hl1 (by rw [r.len]; exact hl2)), hh.app r3, hstk.mono hx ho, ⟨_, rfl, gr.2.1, rr'⟩, he, ht, rfl⟩
    | seq => exact .inr ⟨_, _, A, .eval .seq, hh, hstk.snoc ⟨_, rfl, gr.2.1, r⟩, ⟨_, rfl, gr.1, r⟩, he, ht, hs⟩
    | ch => exact .inr ⟨_, _, A, .eval .ch, hh, hstk.snoc ⟨_, rfl, gr.2.1.2, gr.2.2.1, r⟩, ⟨_, rfl, gr.1, r⟩, he, ht, hs⟩
    | note => exact .inr ⟨_, _, A, .eval .note, hh, hstk, ⟨_, rfl, gr.2.1, r⟩, by show m'.evs ++ _ = m.evs ++ _; rw [he], ht, hs⟩
  | @val w f stk _ _ _ l hst hl h =>
    obtain ⟨w', rfl, r⟩ := hn
    rw [hst] at hstk
    obtain ⟨stk', f', hst', hk, hf⟩ := hstk.cut
    have hw := p.n w rfl
    obtain ⟨l', hl', hv⟩ := vl_sim hl hh r hw
    have vl : ∀ {l2 : Vl}, VlS w { m with stk := stk } l2 → ∃ l2', VlS w' { m' with stk := stk' } l2' ∧ VR fs.length A m.cs l2 l2' := fun h2 => by
      obtain ⟨l2', h3, h4⟩ := vl_sim (m := { m with stk := stk }) (m' := { m' with stk := stk' }) h2 hh r hw
      exact ⟨l2', h3, h4⟩
    have go : ∀ {n1' : Nw} {m1' : Mc} {A1 : Nat → Nat → Prop}, MtS fs f' w' { m' with stk := stk' } n1' m1' → Sim fs.length A1 m1 n1 m1' n1' → (Sim fs.length A m1 n1 m' (.val w') ∨ ∃ n1' m1' A1, StS fs (.val w') m' n1' m1' ∧ Sim fs.length A1 m1 n1 m1' n1') := fun h1 h2 => .inr ⟨_, _, _, .val hst' hl' h1, h2⟩
    cases h with
    | showEnd h1 =>
      cases (show f' = .show from hf)
      obtain ⟨_, h2, c', rfl, vs', rfl, r2⟩ := vl h1
      exact go (.showEnd h2) ⟨hh, hk, rfl, by show m'.evs ++ _ = m.evs ++ _; rw [he], ht, hs⟩
    | showCons h1 =>
      cases (show f' = .show from hf)
      obtain ⟨_, h2, c', rfl, vs', rfl, r2⟩ := vl h1
      cases r2 with
      | cons q1 q2 => cases q2 with
        | cons q2 q3 =>
          cases q3
          exact go (.showCons h2) ⟨hh, hk.snoc ⟨_, rfl, q2⟩, ⟨_, rfl, q1⟩, he, ht, hs⟩
    | showBad h1 e1 e2 =>
      cases (show f' = .show from hf)
      obtain ⟨_, h2, c', rfl, vs', rfl, r2⟩ := vl h1
      exact go (.showBad h2 e1 (by rw [r2.len]; exact e2)) ⟨hh, hk, rfl, he, ht, hs⟩
    | showNo h1 e1 =>
      cases (show f' = .show from hf)
      obtain ⟨l2, h2, r2⟩ := vl h1
      exact go (.showNo h2 (by rw [r2.word]; exact e1)) ⟨hh, hk, rfl, he, ht, hs⟩
    | head h1 =>
      obtain ⟨x', rfl, rx⟩ := hf
      obtain ⟨_, h2, rfl⟩ := vl h1
      exact go (.head h2) ⟨hh, hk.snoc rfl, ⟨_, rfl, rx⟩, by show m'.evs ++ _ = m.evs ++ _; rw [he], ht, hs⟩
    | headNo h1 e1 =>
      obtain ⟨x', rfl, rx⟩ := hf
      obtain ⟨l2, h2, r2⟩ := vl h1
      exact go (.headNo h2 (by rw [r2.word]; exact e1)) ⟨hh, hk, rfl, he, ht, hs⟩
    | @upd _ a _ c h1 =>
      obtain ⟨i, j, e1, rfl, hij⟩ := hf
      obtain rfl : a = i := by omega
      obtain ⟨k0, e2, hk0⟩ := p.h (a : Int) (by rw [hst, updAs_app]; exact List.mem_append_right _ (List.mem_cons_self ..))
      obtain rfl : a = k0 := by omega
      obtain ⟨d, d', g1, g2, g3⟩ := hh.cells a j hij
      have nl : ∀ v, Cl.hole ≠ .on v := fun v z => by cases z
      have ho := onSub_set (c := .on w) hk0 nl
      exact go (.upd g2) ⟨hh.set hij hk0 nl ⟨_, rfl, r.mono (fun _ _ z => z) ho⟩, hk.mono (fun _ _ z => z) ho, ⟨_, rfl, r.mono (fun _ _ z => z) ho⟩, he, ht, hs⟩
    | @part _ ar i b vs ws _ h1 h2 h3 h4 =>
      obtain ⟨ws', rfl, rws⟩ := hf
      obtain ⟨_, g1, c', rfl, vs', rfl, r2⟩ := vl h1
      have ra := r2.app rws
      have ho := onSub_app m.cs [.part (i : Int) (vs ++ ws)]
      have hx : ∀ a b, A a b → extA A m.cs.length m'.cs.length 1 a b := fun _ _ z => .inl z
      exact go (.part g1 h2 (by rw [ra.len]; exact h3) (by rw [ra.len]; exact h4)) (A1 := extA A m.cs.length m'.cs.length 1) ⟨hh.app (cl := [.part (i : Int) (vs ++ ws)]) (cl' := [.part (i : Int) (vs' ++ ws')]) (.cons ⟨_, rfl, ra.mono hx ho⟩ .nil), hk.mono hx ho, ⟨_, rfl, .cell (.inr ⟨0, by decide, rfl, rfl⟩)⟩, he, ht, hs⟩
    | @full _ ar i b vs ws _ h1 h2 h3 h4 =>
      obtain ⟨ws', rfl, rws⟩ := hf
      obtain ⟨_, g1, c', rfl, vs', rfl, r2⟩ := vl h1
      have ra := r2.app rws
      exact go (.full g1 h2 (by rw [ra.len]; exact h3) (by rw [ra.len]; exact h4)) ⟨hh, hk, ⟨_, rfl, hfs _ (List.mem_of_getElem? h2), ra⟩, he, ht, hs⟩
    | @over _ ar i b vs ws _ h1 h2 h3 h4 =>
      obtain ⟨ws', rfl, rws⟩ := hf
      obtain ⟨_, g1, c', rfl, vs', rfl, r2⟩ := vl h1
      have ra := r2.app rws
      exact go (.over g1 h2 (by rw [ra.len]; exact h3) (by rw [ra.len]; exact h4)) ⟨hh, hk.snoc ⟨_, rfl, ra.drop _⟩, ⟨_, rfl, hfs _ (List.mem_of_getElem? h2), ra.take _⟩, he, ht, hs⟩
    | applyNo h1 e1 =>
      obtain ⟨ws', rfl, rws⟩ := hf
      obtain ⟨l2, h2, r2⟩ := vl h1
      exact go (.applyNo h2 (by rw [r2.word]; exact e1)) ⟨hh, hk, rfl, he, ht, hs⟩
    | case h1 h2 h3 h4 h5 =>
      obtain ⟨ws', rfl, gr, gd, rws⟩ := hf
      obtain ⟨_, g1, c', rfl, vs', rfl, r2⟩ := vl h3
      exact go (.case h1 h2 g1 (by rw [r2.len]; exact h4) (by rw [r2.len, rws.len]; exact h5)) ⟨hh, hk, ⟨_, rfl, selC_gl gr h1 h4, rws.app r2⟩, he, ht, hs⟩
    | caseD h1 h2 h3 h4 h5 =>
      obtain ⟨ws', rfl, gr, gd, rws⟩ := hf
      obtain ⟨_, g1, c', rfl, vs', rfl, r2⟩ := vl h3
      obtain ⟨n2, m2, h6, h7⟩ := df_sim h5 hh he ht hs hk gd rws r
      exact go (.caseD h1 h2 g1 (by rw [r2.len]; exact h4) h6) h7
    | caseNo h1 e1 =>
      obtain ⟨ws', rfl, gr, gd, rws⟩ := hf
      obtain ⟨l2, h2, r2⟩ := vl h1
      exact go (.caseNo h2 (by rw [r2.word]; exact e1)) ⟨hh, hk, rfl, he, ht, hs⟩
    | pick h1 h2 h3 h4 =>
      obtain ⟨ws', rfl, gr, gd, rws⟩ := hf
      obtain ⟨_, g1, rfl⟩ := vl h3
      exact go (.pick h1 h2 g1 h4) ⟨hh, hk, ⟨_, rfl, selP_gl gr h1 h4, rws⟩, he, ht, hs⟩
    | pickD h1 h2 h3 h4 h5 =>
      obtain ⟨ws', rfl, gr, gd, rws⟩ := hf
      obtain ⟨_, g1, rfl⟩ := vl h3
      obtain ⟨n2, m2, h6, h7⟩ := df_sim h5 hh he ht hs hk gd rws r
      exact go (.pickD h1 h2 g1 h4 h6) h7
    | pickNo h1 e1 =>
      obtain ⟨ws', rfl, gr, gd, rws⟩ := hf
      obtain ⟨l2, h2, r2⟩ := vl h1
      exact go (.pickNo h2 (by rw [r2.word]; exact e1)) ⟨hh, hk, rfl, he, ht, hs⟩
    | seq h1 =>
      obtain ⟨ws', rfl, gb, rws⟩ := hf
      exact go (.seq (by rw [rws.len]; exact h1)) ⟨hh, hk, ⟨_, rfl, gb, rws.app (.one r)⟩, he, ht, hs⟩
    | right h1 h2 h3 =>
      obtain ⟨ws', rfl, go', rws⟩ := hf
      obtain ⟨_, g1, rfl⟩ := vl h1
      obtain ⟨v', h4, r4⟩ := op_sim h2 go' rws hg
      exact go (.right g1 h4 h3) ⟨hh, hk.snoc rfl, ⟨_, rfl, r4⟩, he, ht, hs⟩
    | rightNo h1 e1 =>
      obtain ⟨ws', rfl, go', rws⟩ := hf
      obtain ⟨l2, h2, r2⟩ := vl h1
      exact go (.rightNo h2 (by rw [r2.word]; exact e1)) ⟨hh, hk, rfl, he, ht, hs⟩
    | @primT _ i j s b _ h1 h2 h3 h4 h5 =>
      cases (show f' = .prim s i from hf)
      obtain ⟨_, g1, rfl⟩ := vl h1
      have ho := onSub_app m.cs [.con (if b = true then 1 else 0) []]
      have hx : ∀ a b, A a b → extA A m.cs.length m'.cs.length 1 a b := fun _ _ z => .inl z
      exact go (.primT g1 h2 h3 h4 h5) (A1 := extA A m.cs.length m'.cs.length 1) ⟨hh.app (cl := [.con (if b = true then 1 else 0) []]) (cl' := [.con (if b = true then 1 else 0) []]) (.cons ⟨_, rfl, .nil⟩ .nil), hk.mono hx ho, ⟨_, rfl, .cell (.inr ⟨0, by decide, rfl, rfl⟩)⟩, he, ht, hs⟩
    | @primN _ i j x s _ h1 h2 h3 h4 h5 =>
      cases (show f' = .prim s i from hf)
      obtain ⟨_, g1, rfl⟩ := vl h1
      exact go (.primN g1 h2 h3 h4 h5) ⟨hh, hk, ⟨_, rfl, .odd⟩, he, ht, hs⟩
    | @primF _ i j s f _ h1 h2 h3 h4 h5 h6 =>
      cases (show f' = .prim s i from hf)
      obtain ⟨_, g1, rfl⟩ := vl h1
      exact go (.primF g1 h2 h3 h4 h5 h6) ⟨hh, hk, rfl, by show m'.evs ++ _ = m.evs ++ _; rw [he], ht, hs⟩
    | @primNo _ i s _ v h1 e1 =>
      cases (show f' = .prim s i from hf)
      obtain ⟨l2, h2, r2⟩ := vl h1
      exact go (.primNo h2 (by rw [r2.word]; exact e1)) ⟨hh, hk, rfl, he, ht, hs⟩
end
end Toy

set_option Elab.async false
set_option linter.all false
set_option maxRecDepth 100000
set_option maxHeartbeats 4000000
/-! Part B: a collection changes nothing of how the two stand to each other. -/
namespace Toy
open PySem L2
/-! ### sizes -/
def sumN (f : Nat → Nat) : List Nat → Nat
  | [] => 0
  | a :: l => f a + sumN f l
theorem sumN_perm {f : Nat → Nat} {l l' : List Nat} (p : l.Perm l') : sumN f l = sumN f l' := by
  induction p with
  | nil => rfl
  | cons x _ ih => show f x + _ = f x + _; rw [ih]
  | swap x y l => show f y + (f x + _) = f x + (f y + _); omega
  | trans _ _ i1 i2 => exact i1.trans i2
theorem sumN_app {f : Nat → Nat} : ∀ l k : List Nat, sumN f (l ++ k) = sumN f l + sumN f k
  | [], k => by show sumN f k = 0 + sumN f k; omega
  | a :: l, k => by
    show f a + sumN f (l ++ k) = f a + sumN f l + sumN f k
    rw [sumN_app l k]
    omega
theorem sumN_le {f : Nat → Nat} : ∀ (n : Nat) {l : List Nat}, l.Nodup → (∀ a ∈ l, a < n) → sumN f l ≤ sumN f (List.range n)
  | 0, l, _, h => by
    cases l with
    | nil => exact Nat.le_refl _
    | cons a l => exact absurd (h a (List.mem_cons_self ..)) (Nat.not_lt_zero _)
  | n + 1, l, d, h => by
    have h1 : ∀ a ∈ l.erase n, a < n := fun a ha => by
      have h2 := h a (List.mem_of_mem_erase ha)
      have h3 : a ≠ n := fun e => by rw [e] at ha; exact (List.Nodup.mem_erase_iff d).mp ha |>.1 rfl
      omega
    have h2 := sumN_le (f := f) n (d.erase n) h1
    rw [List.range_succ, sumN_app]
    show sumN f l ≤ sumN f (List.range n) + (f n + 0)
    by_cases hm : n ∈ l
    · have := sumN_perm (f := f) (List.perm_cons_erase hm)
      have e : sumN f (n :: l.erase n) = f n + sumN f (l.erase n) := rfl
      omega
    · rw [List.erase_of_not_mem hm] at h2
      omega
theorem used_sumN {f : Nat → Nat} : ∀ {cs : List Cl} {met : List Nat}, cs.length = met.length → (∀ (i a : Nat) (c : Cl), met[i]? = some a → cs[i]? = some c → c.size = f a) → used cs = (sumN f met : Int)
  | [], [], _, _ => rfl
  | [], _ :: _, h, _ => by simp at h
  | _ :: _, [], h, _ => by simp at h
  | c :: cs, a :: met, h, k => by
    have h1 := k 0 a c rfl rfl
    have h2 := used_sumN (f := f) (cs := cs) (met := met) (by simpa using h) fun i x y e1 e2 => k (i + 1) x y e1 e2
    show (c.size : Int) + used cs = ((f a + sumN f met : Nat) : Int)
    rw [h1, h2]
    omega
def szf (cs : List Cl) (j : Nat) : Nat := (cs[j]?.map Cl.size).getD 0
theorem used_range (cs : List Cl) : used cs = (sumN (szf cs) (List.range cs.length) : Int) := by
  refine used_sumN (by rw [List.length_range]) fun i a c e1 e2 => ?_
  obtain ⟨hi, e⟩ := List.getElem?_eq_some_iff.mp e1
  rw [List.getElem_range] at e
  subst e
  unfold szf
  rw [e2]
  rfl
theorem Cl.to_size (c : Cl) {vs : List Int} (h : vs.length = c.ws.length) : (c.to vs).size = c.size := by
  cases c with
  | lat b ws s => show max 2 (1 + vs.length) = max 2 (1 + ws.length); rw [h]; rfl
  | part i ws => show 1 + vs.length = 1 + ws.length; rw [h]; rfl
  | con t ws => show 1 + vs.length = 1 + ws.length; rw [h]; rfl
  | on v => rfl
  | hole => rfl
/-! ### words -/
def colA (A : Nat → Nat → Prop) (met : List Nat) (a i : Nat) : Prop := ∃ b, A a b ∧ met[i]? = some b
section
variable {gc : Nat} {A : Nat → Nat → Prop} {cs cs' : List Cl} {met : List Nat}
theorem wr_col (h : HR gc A cs cs') (ho : ∀ (a : Nat) (v : Int), cs[a]? = some (.on v) → ValW cs v) {w w' : Int} (r : WR A cs w w') : ∀ {x : Int}, RW cs' met w' x → WR (colA A met) cs w x := by
  induction r with
  | @odd k =>
    intro x hx
    have e0 : resW cs' (2 * k + 1) = 2 * k + 1 := resW_self fun v z => by omega
    rcases hx with ⟨_, e⟩ | ⟨a, i, e, _⟩
    · rw [e, e0]; exact .odd
    · rw [e0] at e; omega
  | @cell a b hab =>
    intro x hx
    obtain ⟨c, c', h1, h2, h3⟩ := h.cells a b hab
    rcases resW_cases cs' (2 * (b : Int)) with ⟨v', _, e1, e2⟩ | ⟨e2, hno⟩
    · rw [show (2 * (b : Int) / 2).toNat = b by omega, h2] at e1
      cases e1
      have hc : ∃ v, c = .on v ∧ WR A cs v v' := by
        cases c with
        | on v => obtain ⟨u, e, r⟩ := h3; cases e; exact ⟨v, rfl, r⟩
        | lat b ws s => obtain ⟨u, e, _⟩ := h3; cases e
        | part i ws => obtain ⟨u, e, _⟩ := h3; cases e
        | con t ws => obtain ⟨u, e, _⟩ := h3; cases e
        | hole => cases (show Cl.on v' = .hole from h3)
      obtain ⟨v, rfl, rv⟩ := hc
      refine .on h1 ?_
      rcases wr_val h rv (ho a v h1) with ⟨k, e3, e4⟩ | ⟨a2, b2, c2, c2', e3, e4, hab2, _⟩
      · rcases hx with ⟨_, e⟩ | ⟨a3, i, e, _⟩
        · rw [e, e2, e4, e3]; exact .odd
        · rw [e2] at e; omega
      · rcases hx with ⟨o, e⟩ | ⟨a3, i, e, hm, e5⟩
        · rw [e2] at o; omega
        · rw [e2, e4] at e
          obtain rfl : b2 = a3 := by omega
          rw [e3, e5]
          exact .cell ⟨b2, hab2, hm⟩
    · rcases hx with ⟨o, e⟩ | ⟨a3, i, e, hm, e5⟩
      · rw [e2] at o; omega
      · rw [e2] at e
        obtain rfl : b = a3 := by omega
        rw [e5]
        exact .cell ⟨b, hab, hm⟩
  | on hon _ ih => exact fun hx => .on hon (ih hx)
theorem wrs_col (h : HR gc A cs cs') (ho : ∀ (a : Nat) (v : Int), cs[a]? = some (.on v) → ValW cs v) {l l' : List Int} (r : WRs A cs l l') : ∀ {vs : List Int}, RWs cs' met l' vs → WRs (colA A met) cs l vs := by
  induction r with
  | nil => intro vs hx; cases hx; exact .nil
  | cons r1 _ ih =>
    intro vs hx
    cases hx with
    | cons h1 h2 => exact .cons (wr_col h ho r1 h1) (ih h2)
theorem one_of {x : Int} {vs : List Int} (h : RWs cs met [x] vs) : ∃ y, vs = [y] ∧ RW cs met x y := by
  cases h with
  | cons h1 h2 => cases h2; exact ⟨_, rfl, h1⟩
theorem cr_col (h : HR gc A cs cs') (ho : ∀ (a : Nat) (v : Int), cs[a]? = some (.on v) → ValW cs v) {c c' : Cl} (r : CR gc A cs c c') {vs : List Int} (hv : RWs cs' met c'.ws vs) : CR gc (colA A met) cs c (c'.to vs) := by
  cases c with
  | lat b ws s => obtain ⟨ws', rfl, g, r⟩ := r; exact ⟨vs, rfl, g, wrs_col h ho r hv⟩
  | part i ws => obtain ⟨ws', rfl, r⟩ := r; exact ⟨vs, rfl, wrs_col h ho r hv⟩
  | con t ws => obtain ⟨ws', rfl, r⟩ := r; exact ⟨vs, rfl, wrs_col h ho r hv⟩
  | on v =>
    obtain ⟨v', rfl, r⟩ := r
    obtain ⟨y, rfl, hy⟩ := one_of hv
    exact ⟨y, rfl, wr_col h ho r hy⟩
  | hole => cases (show c' = .hole from r); rfl
theorem fr_col (h : HR gc A cs cs') (ho : ∀ (a : Nat) (v : Int), cs[a]? = some (.on v) → ValW cs v) {f f' : Fm} (hu : ∀ a : Int, f = .upd a → ∃ k : Nat, a = (k : Int) ∧ cs[k]? = some .hole) (r : FR gc A cs f f') {vs : List Int} (hv : RWs cs' met f'.ws vs) : FR gc (colA A met) cs f (f'.to vs) := by
  cases f with
  | «show» => cases (show f' = .show from r); rfl
  | head w =>
    obtain ⟨w', rfl, r⟩ := r
    obtain ⟨y, rfl, hy⟩ := one_of hv
    exact ⟨y, rfl, wr_col h ho r hy⟩
  | upd a =>
    obtain ⟨i, j, e1, rfl, hij⟩ := r
    obtain ⟨y, rfl, hy⟩ := one_of hv
    obtain ⟨k, e2, hk⟩ := hu a rfl
    obtain rfl : i = k := by omega
    obtain ⟨c, c', h1, h2, h3⟩ := h.cells i j hij
    rw [hk] at h1
    cases h1
    cases (show c' = .hole from h3)
    have e0 : resW cs' (2 * (j : Int)) = 2 * (j : Int) := resW_self (notOn_of h2 fun v z => by cases z)
    rcases hy with ⟨o, _⟩ | ⟨a3, x, e, hm, e5⟩
    · rw [e0] at o; omega
    · rw [e0] at e
      obtain rfl : j = a3 := by omega
      refine ⟨i, x, e1, ?_, j, hij, hm⟩
      rw [e5]
      show Fm.upd (2 * (x : Int) / 2) = .upd (x : Int)
      rw [show 2 * (x : Int) / 2 = (x : Int) by omega]
  | apply ws => obtain ⟨ws', rfl, r⟩ := r; exact ⟨vs, rfl, wrs_col h ho r hv⟩
  | ch c rows d ws => obtain ⟨ws', rfl, g1, g2, r⟩ := r; exact ⟨vs, rfl, g1, g2, wrs_col h ho r hv⟩
  | seq b ws => obtain ⟨ws', rfl, g, r⟩ := r; exact ⟨vs, rfl, g, wrs_col h ho r hv⟩
  | right s o ws => obtain ⟨ws', rfl, g, r⟩ := r; exact ⟨vs, rfl, g, wrs_col h ho r hv⟩
  | prim s n => cases (show f' = .prim s n from r); rfl
theorem frs_col (h : HR gc A cs cs') (ho : ∀ (a : Nat) (v : Int), cs[a]? = some (.on v) → ValW cs v) {l l' : List Fm} (r : FRs gc A cs l l') : ∀ {k : List Fm}, (∀ a ∈ updAs l, ∃ k : Nat, a = (k : Int) ∧ cs[k]? = some .hole) → RFs cs' met l' k → FRs gc (colA A met) cs l k := by
  induction r with
  | nil => intro k _ hx; cases hx; exact .nil
  | @cons f f' l l' r1 _ ih =>
    intro k hu hx
    cases hx with
    | cons h1 h2 =>
      refine .cons (fr_col h ho (fun a e => hu a (by subst e; exact List.mem_cons_self ..)) r1 h1) (ih (fun a ha => hu a ?_) h2)
      have : updAs (f :: l) = updAs [f] ++ updAs l := updAs_app [f] l
      rw [this]
      exact List.mem_append_right _ ha
theorem nr_col (h : HR gc A cs cs') (ho : ∀ (a : Nat) (v : Int), cs[a]? = some (.on v) → ValW cs v) {n n' : Nw} (r : NR gc A cs n n') {vs : List Int} (hv : RWs cs' met n'.ws vs) : NR gc (colA A met) cs n (n'.to vs) := by
  cases n with
  | enter w =>
    obtain ⟨w', rfl, r⟩ := r
    obtain ⟨y, rfl, hy⟩ := one_of hv
    exact ⟨y, rfl, wr_col h ho r hy⟩
  | eval b ws => obtain ⟨ws', rfl, g, r⟩ := r; exact ⟨vs, rfl, g, wrs_col h ho r hv⟩
  | val w =>
    obtain ⟨w', rfl, r⟩ := r
    obtain ⟨y, rfl, hy⟩ := one_of hv
    exact ⟨y, rfl, wr_col h ho r hy⟩
  | fin => cases (show n' = .fin from r); rfl
  | fault s => cases (show n' = .fault s from r); rfl
  | loop => cases (show n' = .loop from r); rfl
  | stuck => cases (show n' = .stuck from r); rfl
  | full => cases (show n' = .full from r); rfl
end
theorem met_inj {met : List Nat} (d : met.Nodup) {i j x : Nat} (h1 : met[i]? = some x) (h2 : met[j]? = some x) : i = j :=
  (List.getElem?_inj (List.getElem?_eq_some_iff.mp h1).1 d).mp (h1.trans h2.symm)
theorem sim_col {gc : Nat} {A : Nat → Nat → Prop} {m m' : Mc} {n n' : Nw} (S : Sim gc A m n m' n') (p : POk m n) {met : List Nat} {cs2 : List Cl} {stk2 : List Fm} {n2 : Nw} (hc : ColS gc m'.cs m'.stk n' met cs2 stk2 n2) : Sim gc (colA A met) m n (m'.col cs2 stk2) n2 := by
  obtain ⟨h, hs, hn, he, ht, hr⟩ := S
  obtain ⟨hok, hg, hl, hcs, hst, vs, hv, rfl⟩ := hc
  have hg' : ∀ i, i < gc → met[i]? = some i := fun i hi => hg.get (by rw [List.getElem?_range hi])
  refine ⟨⟨?_, ?_, ?_, ?_, fun i hi => ⟨i, h.glob i hi, hg' i hi⟩, ?_, ?_, ?_⟩, frs_col h p.o hs p.h hst, nr_col h p.o hn hv, he, ht, hr⟩
  · rintro a i j ⟨b, h1, h2⟩ ⟨b', h3, h4⟩
    have := h.fn _ _ _ h1 h3
    subst this
    exact met_inj hok.d h2 h4
  · rintro a a' i ⟨b, h1, h2⟩ ⟨b', h3, h4⟩
    rw [h2] at h4
    cases h4
    exact h.inj _ _ _ h1 h3
  · rintro a i ⟨b, h1, h2⟩
    refine ⟨(h.dom _ _ h1).1, ?_⟩
    show i < cs2.length
    rw [hl]
    exact (List.getElem?_eq_some_iff.mp h2).1
  · intro i hi
    have hi : i < cs2.length := hi
    rw [hl] at hi
    obtain ⟨b, hb⟩ : ∃ b, met[i]? = some b := ⟨_, List.getElem?_eq_getElem hi⟩
    obtain ⟨a, ha⟩ := h.sur b (hok.l b (List.mem_of_getElem? hb))
    exact ⟨a, b, ha, hb⟩
  · rintro a i ⟨b, h1, h2⟩
    obtain ⟨c, c', g1, g2, g3⟩ := h.cells a b h1
    obtain ⟨c2, vs2, k1, k2, k3⟩ := hcs i b (by rw [hl]; exact (List.getElem?_eq_some_iff.mp h2).1) h2
    rw [g2] at k1
    cases k1
    exact ⟨c, _, g1, k3, cr_col h p.o g3 k2⟩
  · have h1 : used cs2 = (sumN (szf m'.cs) met : Int) := used_sumN hl fun i b c e1 e2 => by
      obtain ⟨c2, vs2, k1, k2, k3⟩ := hcs i b (by rw [hl]; exact (List.getElem?_eq_some_iff.mp e1).1) e1
      rw [k3] at e2
      cases e2
      unfold szf
      rw [k1]
      exact c2.to_size k2.len
    have h2 := sumN_le (f := szf m'.cs) m'.cs.length hok.d hok.l
    have h3 := used_range m'.cs
    have h4 := h.used
    show used cs2 ≤ _
    omega
  · have := nodup_le _ hok.d hok.l
    have := h.len
    show cs2.length ≤ _
    omega
end Toy

set_option Elab.async false
set_option linter.all false
set_option maxRecDepth 100000
set_option maxHeartbeats 4000000
/-! Part C: runs. -/
namespace Toy
open PySem L2
/-- how many words stand in frames and in what it does -/
structure WdOk (m : Mc) (n : Nw) : Prop where
  s : ∀ f ∈ m.stk, f.ws.length ≤ 150
  n : n.ws.length ≤ 150
/-- it stops within so many steps; there is always room -/
inductive RunW (fs : List (Int × Dd)) (room : Int) : Nat → Nw → Mc → Nw → Mc → Prop
  | stop {k : Nat} {n : Nw} {m : Mc} : n.run = false → RunW fs room k n m n m
  | step {k : Nat} {n n' n'' : Nw} {m m' m'' : Mc} : n.run = true → m.small → WdOk m n → used m.cs ≤ 90000 → StS fs n m n' m' → (∀ z, NeedN fs n m z → used m.cs + z ≤ room) → RunW fs room k n' m' n'' m'' → RunW fs room (k + 1) n m n'' m''
section
variable {gc : Nat} {A : Nat → Nat → Prop} {cs cs' : List Cl}
theorem wr_in (h : HR gc A cs cs') {w w' : Int} (r : WR A cs w w') : WIn cs'.length w' := by
  induction r with
  | odd => exact .inl (by omega)
  | cell hab => exact .inr ⟨_, rfl, (h.dom _ _ hab).2⟩
  | on _ _ ih => exact ih
theorem wrs_in (h : HR gc A cs cs') {l l' : List Int} (r : WRs A cs l l') : ∀ x ∈ l', WIn cs'.length x := by
  induction r with
  | nil => exact fun x h => absurd h List.not_mem_nil
  | cons r1 _ ih =>
    intro x hx
    rcases List.mem_cons.mp hx with e | e
    · rw [e]; exact wr_in h r1
    · exact ih x e
theorem in_one {L : Nat} {w : Int} (h : WIn L w) : ∀ x ∈ [w], WIn L x := fun x hx => by rw [List.mem_singleton.mp hx]; exact h
theorem cr_in (h : HR gc A cs cs') {c c' : Cl} (r : CR gc A cs c c') : (∀ x ∈ c'.ws, WIn cs'.length x) ∧ c'.ws.length = c.ws.length := by
  cases c with
  | lat b ws s => obtain ⟨ws', rfl, g, r⟩ := r; exact ⟨wrs_in h r, r.len⟩
  | part i ws => obtain ⟨ws', rfl, r⟩ := r; exact ⟨wrs_in h r, r.len⟩
  | con t ws => obtain ⟨ws', rfl, r⟩ := r; exact ⟨wrs_in h r, r.len⟩
  | on v => obtain ⟨v', rfl, r⟩ := r; exact ⟨in_one (wr_in h r), rfl⟩
  | hole => cases (show c' = .hole from r); exact ⟨fun x h => absurd h List.not_mem_nil, rfl⟩
theorem fr_in (h : HR gc A cs cs') {f f' : Fm} (r : FR gc A cs f f') : (∀ x ∈ f'.ws, WIn cs'.length x) ∧ f'.ws.length = f.ws.length := by
  have no : ∀ x ∈ ([] : List Int), WIn cs'.length x := fun x h => absurd h List.not_mem_nil
  cases f with
  | «show» => cases (show f' = .show from r); exact ⟨no, rfl⟩
  | head w => obtain ⟨w', rfl, r⟩ := r; exact ⟨in_one (wr_in h r), rfl⟩
  | upd a => obtain ⟨i, j, e1, rfl, hij⟩ := r; exact ⟨in_one (.inr ⟨j, rfl, (h.dom _ _ hij).2⟩), rfl⟩
  | apply ws => obtain ⟨ws', rfl, r⟩ := r; exact ⟨wrs_in h r, r.len⟩
  | ch c rows d ws => obtain ⟨ws', rfl, g1, g2, r⟩ := r; exact ⟨wrs_in h r, r.len⟩
  | seq b ws => obtain ⟨ws', rfl, g, r⟩ := r; exact ⟨wrs_in h r, r.len⟩
  | right s o ws => obtain ⟨ws', rfl, g, r⟩ := r; exact ⟨wrs_in h r, r.len⟩
  | prim s n => cases (show f' = .prim s n from r); exact ⟨no, rfl⟩
theorem frs_in (h : HR gc A cs cs') {l l' : List Fm} (r : FRs gc A cs l l') (hl : ∀ f ∈ l, f.ws.length ≤ 150) : ∀ f ∈ l', (∀ x ∈ f.ws, WIn cs'.length x) ∧ f.ws.length ≤ 150 := by
  induction r with
  | nil => exact fun x h => absurd h List.not_mem_nil
  | @cons f f' l l' r1 _ ih =>
    intro x hx
    rcases List.mem_cons.mp hx with e | e
    · rw [e]
      obtain ⟨h1, h2⟩ := fr_in h r1
      exact ⟨h1, by rw [h2]; exact hl _ (List.mem_cons_self ..)⟩
    · exact ih (fun g hg => hl g (List.mem_cons_of_mem _ hg)) x e
theorem nr_in (h : HR gc A cs cs') {n n' : Nw} (r : NR gc A cs n n') : (∀ x ∈ n'.ws, WIn cs'.length x) ∧ n'.ws.length = n.ws.length := by
  have no : ∀ x ∈ ([] : List Int), WIn cs'.length x := fun x h => absurd h List.not_mem_nil
  cases n with
  | enter w => obtain ⟨w', rfl, r⟩ := r; exact ⟨in_one (wr_in h r), rfl⟩
  | eval b ws => obtain ⟨ws', rfl, g, r⟩ := r; exact ⟨wrs_in h r, r.len⟩
  | val w => obtain ⟨w', rfl, r⟩ := r; exact ⟨in_one (wr_in h r), rfl⟩
  | fin => cases (show n' = .fin from r); exact ⟨no, rfl⟩
  | fault s => cases (show n' = .fault s from r); exact ⟨no, rfl⟩
  | loop => cases (show n' = .loop from r); exact ⟨no, rfl⟩
  | stuck => cases (show n' = .stuck from r); exact ⟨no, rfl⟩
  | full => cases (show n' = .full from r); exact ⟨no, rfl⟩
end
theorem ws_size (c : Cl) : c.ws.length ≤ c.size := by
  cases c with
  | lat b ws s => show ws.length ≤ max 2 (1 + ws.length); omega
  | part i ws => show ws.length ≤ 1 + ws.length; omega
  | con t ws => show ws.length ≤ 1 + ws.length; omega
  | on v => show 1 ≤ 2; decide
  | hole => show 0 ≤ 2; decide
theorem used_nn : ∀ cs : List Cl, 0 ≤ used cs
  | [] => Int.le_refl 0
  | c :: cs => by
    have := used_nn cs
    show (0 : Int) ≤ (c.size : Int) + used cs
    omega
theorem size_used : ∀ {cs : List Cl} {c : Cl}, c ∈ cs → (c.size : Int) ≤ used cs
  | d :: cs, c, h => by
    have := used_nn cs
    rcases List.mem_cons.mp h with e | e
    · subst e
      show (c.size : Int) ≤ (c.size : Int) + used cs
      omega
    · have := size_used e
      show (c.size : Int) ≤ (d.size : Int) + used cs
      omega
theorem stkWs_len {b : Nat} : ∀ {l : List Fm}, (∀ f ∈ l, f.ws.length ≤ b) → (stkWs l).length ≤ l.length * b
  | [], _ => Nat.zero_le _
  | f :: l, h => by
    have h1 := h f (List.mem_cons_self ..)
    have h2 := stkWs_len fun g hg => h g (List.mem_cons_of_mem _ hg)
    show (f.ws ++ stkWs l).length ≤ (l.length + 1) * b
    rw [List.length_append, Nat.succ_mul]
    omega
theorem Sim.small {gc : Nat} {A : Nat → Nat → Prop} {m m' : Mc} {n n' : Nw} (S : Sim gc A m n m' n') (h : m.small) : m'.small := by
  obtain ⟨hh, hs, _, he, ht, _⟩ := S
  exact ⟨Nat.le_trans hh.len h.c, by rw [hs.len]; exact h.s, by rw [he]; exact h.e, by rw [ht]; exact h.n⟩
theorem col_ok {gc : Nat} {A : Nat → Nat → Prop} {m m' : Mc} {n n' : Nw} (S : Sim gc A m n m' n') (p : POk m n) (hr : n.run = true) (hsm : m.small) (hw : WdOk m n) (hu : used m.cs ≤ 90000) (hg : gc ≤ 1000) : ColOk gc m'.cs m'.stk n' := by
  have hsm' := S.small hsm
  obtain ⟨h, hs, hn, he, ht, _⟩ := S
  have hstk := frs_in h hs hw.s
  obtain ⟨hn1, hn2⟩ := nr_in h hn
  have hnw := hw.n
  refine ⟨fun b v e => ?_, fun c' hc => ?_, fun f hf => ⟨(hstk f hf).1, by have := (hstk f hf).2; omega⟩, ⟨hn1, by omega⟩, by rw [hn.run]; exact hr, ?_, hg, by have := hsm'.c; omega, hsm'.s, ?_⟩
  · obtain ⟨a, ha⟩ := h.sur b (List.getElem?_eq_some_iff.mp e).1
    obtain ⟨c, c', g1, g2, g3⟩ := h.cells a b ha
    rw [e] at g2
    cases g2
    have hc : ∃ u, c = .on u ∧ WR A m.cs u v := by
      cases c with
      | on u => obtain ⟨u', e', r⟩ := g3; cases e'; exact ⟨u, rfl, r⟩
      | lat b ws s => obtain ⟨u, e', _⟩ := g3; cases e'
      | part i ws => obtain ⟨u, e', _⟩ := g3; cases e'
      | con t ws => obtain ⟨u, e', _⟩ := g3; cases e'
      | hole => cases (show Cl.on v = .hole from g3)
    obtain ⟨u, rfl, r⟩ := hc
    refine ⟨wr_in h r, ?_⟩
    rcases wr_val h r (p.o a u g1) with ⟨k, e1, e2⟩ | ⟨a2, b2, c2, c2', e1, e2, _, _, k2, k3, k4⟩
    · intro x z
      omega
    · rw [e2]
      refine notOn_of k2 fun x z => ?_
      subst z
      have := k3.word
      unfold isVal at k4
      rw [← this] at k4
      exact no_on k4
  · obtain ⟨b, hb⟩ := List.getElem?_of_mem hc
    obtain ⟨a, ha⟩ := h.sur b (List.getElem?_eq_some_iff.mp hb).1
    obtain ⟨c, c2, g1, g2, g3⟩ := h.cells a b ha
    rw [hb] at g2
    cases g2
    obtain ⟨h1, h2⟩ := cr_in h g3
    refine ⟨h1, ?_⟩
    have h3 := ws_size c
    have h4 := size_used (List.mem_of_getElem? g1)
    omega
  · cases gc with
    | zero => exact Nat.zero_le _
    | succ g =>
      have := (h.dom _ _ (h.glob g (by omega))).2
      omega
  · have h1 := stkWs_len (b := 150) fun f hf => (hstk f hf).2
    have h2 := hsm'.s
    have h3 : m'.stk.length * 150 ≤ 90000 * 150 := Nat.mul_le_mul_right _ h2
    have h4 : (gcWs gc).length = gc := by unfold gcWs; rw [List.length_map, List.length_range]
    rw [List.length_append, List.length_append, h4]
    omega
theorem needM_sim {fs : List (Int × Dd)} {gc : Nat} {A : Nat → Nat → Prop} {cs : List Cl} {f f' : Fm} {l l' : Vl} (hf : FR gc A cs f f') (hl : VR gc A cs l l') : needM fs f' l' = needM fs f l := by
  cases f with
  | apply ws =>
    obtain ⟨ws', rfl, r⟩ := hf
    cases l with
    | num n => cases (show l' = .num n from hl); rfl
    | cell c =>
      obtain ⟨c', rfl, g⟩ := hl
      cases c with
      | part i vs =>
        obtain ⟨vs', rfl, r2⟩ := g
        show (if ((vs'.length + ws'.length : Nat) : Int) < _ then _ else _) = (if ((vs.length + ws.length : Nat) : Int) < _ then _ else _)
        rw [r.len, r2.len]
      | lat b ws s => obtain ⟨u, rfl, _⟩ := g; rfl
      | con t ws => obtain ⟨u, rfl, _⟩ := g; rfl
      | on v => obtain ⟨u, rfl, _⟩ := g; rfl
      | hole => cases (show c' = .hole from g); rfl
  | prim s i =>
    cases (show f' = .prim s i from hf)
    cases l with
    | num n => cases (show l' = .num n from hl); rfl
    | cell c => obtain ⟨c', rfl, g⟩ := hl; rfl
  | «show» => cases (show f' = .show from hf); rfl
  | head w => obtain ⟨w', rfl, r⟩ := hf; rfl
  | upd a => obtain ⟨i, j, e1, rfl, hij⟩ := hf; rfl
  | ch c rows d ws => obtain ⟨ws', rfl, _⟩ := hf; rfl
  | seq b ws => obtain ⟨ws', rfl, _⟩ := hf; rfl
  | right s o ws => obtain ⟨ws', rfl, _⟩ := hf; rfl
theorem need_sim {fs : List (Int × Dd)} {gc : Nat} {A : Nat → Nat → Prop} {m m' m1 : Mc} {n n' n1 : Nw} (S : Sim gc A m n m' n') (p : POk m n) (h : StS fs n m n1 m1) {z : Int} (hz : NeedN fs n' m' z) : NeedN fs n m z := by
  obtain ⟨hh, hs, hn, _, _, _⟩ := S
  cases h with
  | enter _ => obtain ⟨w', rfl, _⟩ := hn; exact hz
  | eval _ => obtain ⟨w', rfl, _⟩ := hn; exact hz
  | @val w f stk _ _ _ l hst hl _ =>
    obtain ⟨w', rfl, r⟩ := hn
    rw [hst] at hs
    obtain ⟨stk', f', hst', _, hf⟩ := hs.cut
    obtain ⟨l', hl', hv⟩ := vl_sim hl hh r (p.n w rfl)
    obtain ⟨stk2, f2, l2, e1, e2, e3⟩ := hz
    rw [hst'] at e1
    obtain ⟨_, e4⟩ := List.append_inj' e1 rfl
    cases e4
    have := hl'.det e2 rfl
    subst this
    exact ⟨stk, f, l, hst, hl, by rw [e3]; exact needM_sim hf hv⟩
/-- the other one does its next step -/
theorem adv {fs : List (Int × Dd)} {room : Int} (hfs : ∀ q ∈ fs, GlD fs.length q.2) {nE : Nw} {mE m' : Mc} {n' : Nw} : ∀ {k : Nat} {n : Nw} {m : Mc} {A : Nat → Nat → Prop}, RunW fs room k n m nE mE → Sim fs.length A m n m' n' → POk m n → n.run = true →
    ∃ (k1 : Nat) (n1 : Nw) (m1 : Mc) (A1 : Nat → Nat → Prop) (n1' : Nw) (m1' : Mc), k1 < k ∧ StS fs n' m' n1' m1' ∧ (∀ z, NeedN fs n' m' z → used m'.cs + z ≤ room) ∧ m'.small ∧ RunW fs room k1 n1 m1 nE mE ∧ Sim fs.length A1 m1 n1 m1' n1' ∧ POk m1 n1
  | _, _, _, _, .stop h, _, _, hr => by rw [h] at hr; cases hr
  | _, _, _, _, .step (k := k) (n' := n1) (m' := m1) _ hsm hw hu hst hfit hrun, S, p, hr => by
    have p1 := pok_step hst p
    rcases sim_step hfs S p hst with S1 | ⟨n1', m1', A1, h1, S1⟩
    · have hr1 : n1.run = true := by
        rw [← S1.n.run, S.n.run]
        exact hr
      obtain ⟨k2, n2, m2, A2, n2', m2', h1, h2, h3, h4, h5⟩ := adv hfs hrun S1 p1 hr1
      exact ⟨k2, n2, m2, A2, n2', m2', by omega, h2, h3, h4, h5⟩
    · refine ⟨k, n1, m1, A1, n1', m1', by omega, h1, fun z hz => ?_, S.small hsm, hrun, S1, p1⟩
      have := hfit z (need_sim S p hst hz)
      have := S.h.used
      omega
end Toy

set_option Elab.async false
set_option linter.all false
set_option maxRecDepth 100000
set_option maxHeartbeats 8000000
/-! Part D: code is run, with any schedule. -/
namespace Toy
open PySem L2
open PyProof.Rows (envOfC)
/-- what a report says of a run that has stopped -/
def RepC (K : PySem.W.Frag) (H : Hp) (n : Nw) (m : Mc) (v : V) : Prop := ∃ t te sv xs co, v = .ref t ∧ H t = some (.tup [.ref te, sv, .int (m.ent.length : Int), .int co]) ∧ H te = some (.tup xs) ∧ Dd.Ats F0 H (m.evs.map Ev.D) xs ∧ NwAt K H n sv
def In6 (p : Pl) (x : Addr) : Prop := x = p.mo ∨ x = p.ho ∨ x = p.hd ∨ x = p.sa ∨ x = p.ea ∨ x = p.na
/-- where the machine keeps things behind collections -/
structure NewP (H : Hp) (p p' : Pl) : Prop where
  mo : p'.mo = p.mo
  ho : p'.ho = p.ho
  ea : p'.ea = p.ea
  na : p'.na = p.na
  room : p'.room = p.room
  fv : p'.fv = p.fv
  hd : In6 p p'.hd ∨ H p'.hd = none
  sa : In6 p p'.sa ∨ H p'.sa = none
theorem NewP.refl {H : Hp} {p : Pl} : NewP H p p := ⟨rfl, rfl, rfl, rfl, rfl, rfl, .inl (.inr (.inr (.inl rfl))), .inl (.inr (.inr (.inr (.inl rfl))))⟩
theorem NewP.keep {H G G' : Hp} {p p' : Pl} (h : NewP H p p') (k : KeepM p H G) (k' : KeepM p' G G') : KeepM p H G' := fun b u n1 n2 n3 n4 n5 n6 e => by
  have off : ∀ x, (In6 p x ∨ H x = none) → b ≠ x := fun x hx z => by
    rcases hx with (h | h | h | h | h | h) | h
    · exact n1 (z.trans h)
    · exact n2 (z.trans h)
    · exact n3 (z.trans h)
    · exact n4 (z.trans h)
    · exact n5 (z.trans h)
    · exact n6 (z.trans h)
    · rw [z, h] at e; cases e
  exact k' b u (by rw [h.mo]; exact n1) (by rw [h.ho]; exact n2) (off _ h.hd) (off _ h.sa) (by rw [h.ea]; exact n5) (by rw [h.na]; exact n6) (k b u n1 n2 n3 n4 n5 n6 e)
theorem in6_or {H G : Hp} {p : Pl} {x : Addr} (k : KeepM p H G) (h : G x = none) : In6 p x ∨ H x = none := by
  by_cases c : In6 p x
  · exact .inl c
  · refine .inr ?_
    cases e : H x with
    | none => rfl
    | some u =>
      have := k x u (fun z => c (.inl z)) (fun z => c (.inr (.inl z))) (fun z => c (.inr (.inr (.inl z)))) (fun z => c (.inr (.inr (.inr (.inl z))))) (fun z => c (.inr (.inr (.inr (.inr (.inl z)))))) (fun z => c (.inr (.inr (.inr (.inr (.inr z)))))) e
      rw [h] at this
      cases this
/-- both begin alike -/
theorem start_cr {gc : Nat} {A : Nat → Nat → Prop} {cs : List Cl} : ∀ {l : List (Int × Dd)} {k : Nat}, (∀ q ∈ l, GlD gc q.2) → ∀ c ∈ startC k l, CR gc A cs c c ∧ (∀ v, c ≠ .on v)
  | [], _, _, c, hc => absurd hc List.not_mem_nil
  | q :: l, k, h, c, hc => by
    rcases List.mem_cons.mp (show c ∈ _ :: startC (k + 1) l from hc) with e | hc
    · split at e <;> subst e
      · exact ⟨⟨[], rfl, h q (List.mem_cons_self ..), .nil⟩, fun v z => by cases z⟩
      · exact ⟨⟨[], rfl, .nil⟩, fun v z => by cases z⟩
    · exact start_cr (fun y hy => h y (List.mem_cons_of_mem _ hy)) c hc
theorem sim_start {fs : List (Int × Dd)} (h : ∀ q ∈ fs, GlD fs.length q.2) {k : Nat} (hk : k < fs.length) : Sim fs.length (fun a b => a = b ∧ a < fs.length) (startM fs) (.enter (2 * (k : Int))) (startM fs) (.enter (2 * (k : Int))) ∧ POk (startM fs) (.enter (2 * (k : Int))) := by
  have hl : (startC 0 fs).length = fs.length := startC_len fs 0
  refine ⟨⟨⟨fun a b b' h1 h2 => h1.1.symm.trans h2.1, fun a a' b h1 h2 => h1.1.trans h2.1.symm, fun a b ⟨h1, h2⟩ => ?_, fun b hb => ⟨b, rfl, ?_⟩, fun i hi => ⟨rfl, hi⟩, fun a b ⟨h1, h2⟩ => ?_, Int.le_refl _, Nat.le_refl _⟩, .cons rfl .nil, ⟨_, rfl, .cell ⟨rfl, hk⟩⟩, rfl, rfl, rfl⟩, ⟨List.nodup_nil, fun a ha => absurd ha List.not_mem_nil, fun a v e => ?_, fun w e => by cases e⟩⟩
  · subst h1
    show a < (startC 0 fs).length ∧ a < (startC 0 fs).length
    omega
  · have hb : b < (startC 0 fs).length := hb
    omega
  · subst h1
    obtain ⟨c, hc⟩ : ∃ c, (startC 0 fs)[a]? = some c := ⟨_, List.getElem?_eq_getElem (by omega)⟩
    exact ⟨c, c, hc, hc, (start_cr h c (List.mem_of_getElem? hc)).1⟩
  · exact absurd rfl ((start_cr (A := fun _ _ => True) (cs := []) h _ (List.mem_of_getElem? (show (startC 0 fs)[a]? = _ from e))).2 v)
theorem putK_lenC (c : List (Key × V)) (k : Key) (x : V) : (putK c k x).length ≤ c.length + 1 := by
  unfold putK
  split
  · rw [List.length_map]; omega
  · rw [List.length_append]; exact Nat.le_refl _
structure TxtRcC (P : Program) (w : World) (K : PySem.W.Frag) (mg : Str → Option Value) (base : Heap) (CM CH pS fS : Addr) (fdS : FuncData) : Prop extends TxtRc P w K mg base CM CH pS fS fdS
section
variable {P : Program} {w : World} {K : PySem.W.Frag} {mg : Str → Option Value} {base : Heap} {CM CH pS fS : Addr} {fdS : FuncData}
def spRunC (K : PySem.W.Frag) : Sp := fun vs H Q _ => ∃ (fa ga la : Addr) (xs : List V) (main : Nat) (room : Int) (N k : Nat) (sch : List Int) (fs : List (Int × Dd)) (n : Nw) (m : Mc), vs = [.ref ga, .int room, .ref la, .int (N : Int)] ∧ H ga = some (.tup [.ref fa, .int (main : Int)]) ∧ H fa = some (.tup xs) ∧ Dd.Ats F0 H (fs.map fnD) xs ∧ fs.length ≤ 1000 ∧ main < fs.length ∧ (∀ q ∈ fs, GlD fs.length q.2) ∧ H la = some (.lst (sch.map V.int)) ∧ sch.length ≤ 1000 ∧ N ≤ 100000 ∧ k ≤ N ∧ RunW fs room k (.enter (2 * (main : Int))) (startM fs) n m ∧
  ∀ (v : V) (H' : Hp), Same H H' → RepC K H' n m v → Q v H'
theorem c_runC {f : Addr} {fd : FuncData} (T : TxtRc P w K mg base CM CH pS fS fdS) (cMachine : C8.Mak P w K mg base 3 "Machine" CM (spMInit K CM CH) []) (ccollect : C8.Met P w K mg base 4 CM "collect" (spCollect K CM CH) []) (cstep : C8.Met P w K mg base 6 CM "step" (spStep K CM CH) []) (F : Fun K "run_code" "run_code" sRunCode f fd) (b : Binds K fd ["program", "room", "schedule", "steps"] []) (hm : mg "run_code" = some (.ref f)) : C8.Cal P w K mg base 7 "run_code" (spRunC K) [] := by
  refine cal_of F hm b scRunCode (fun vs H Q E h => ?_) (fun cdv A outer s H vs Q E hr h => ?_)
  · obtain ⟨fa, ga, la, xs, main, room, N, k, sch, fs, n, m, rfl, _⟩ := h
    rfl
  obtain ⟨fa, ga, la, xs, main, room, N, k, sch, fs, nE, mE, rfl, hga, hfa, hfx, hfl, hmn, hgl, hla, hsch, hN, hk, hrun, q⟩ := h
  have hu := hu_of hr
  refine ⟨_, (pss_cons (ps_set (i := 4) scRunCode.nd rfl (Or.inl rfl) (C8.pe_mk cMachine hr (by decide) rfl (pa_cons (pv 0) (pa_cons (pv 1) pa_nil))))
    (pss_cons (ps_setDc (i := 6) (own := [("number", 5)]) (g := gName 5) (tt := tYes) rfl scRunCode.nd rfl rfl (sw_trueD rfl rfl rfl (by decide +kernel)) (pi_list (pv 2)) (blkOk_by (own := [("number", 5)]) (N := ["program", "room", "schedule", "steps", "machine", "number", "scheduled", "state"]) (sc := defScope sRunCode) (by decide +kernel)) (fun _ _ _ _ _ => (pg_name (i := 5) scRunCode.nd rfl (Or.inl rfl))) (fun _ _ _ _ _ => pts_nil) (fun _ _ _ _ _ => (pv 5)) (fun _ _ _ _ _ => pe_bl))
    (C8.pss_cut (ps_for PassesOwn.never rfl (pi_range1 rfl T.zrange (pa_cons (pv 3) pa_nil)) (pg_name (i := 5) scRunCode.nd rfl (Or.inl rfl))
      (pss_cons (ps_if (pt_val (pe_prop (E := C8.E0) (pv 4) T.cl T.hpStop T.fStop (hr.mono (by decide)) T.bStop .nil C8.pass0 rfl))
      (pss_one ps_break)
      pss_nil)
    (C8.pss_cut (ps_if (pt_cmp (pc_din hu (pv 5) (pv 6)))
      (pss_one (ps_expr (C8.pe_mt0 ccollect hr (by decide) (pv 4))))
      pss_nil)
    (pss_one (ps_expr (C8.pe_mt0 cstep hr (by decide) (pv 4)))))))
    (C8.pss_cut (ps_set (i := 7) scRunCode.nd rfl (Or.inl rfl) (pe_ifExp (pt_val (pe_prop (E := C8.E0) (pv 4) T.cl T.hpStop T.fStop (hr.mono (by decide)) T.bStop .nil C8.pass0 rfl)) (pe_fld (pv 4) rfl) (pe_tup (pa_cons pe_str pa_nil))))
    (pss_one (ps_ret (pe_tup (pa_cons (pe_callTy call_tuple_of rfl T.ztuple boot_tuple (pa_cons (pe_fld (pv 4) rfl) pa_nil)) (pa_cons (pv 7) (pa_cons (pe_callB call_len_seq rfl T.zlen PySem.boot_len (pa_cons (pe_fld (pv 4) rfl) pa_nil)) (pa_cons (pe_fld (pv 4) rfl) pa_nil))))))))))), ?_⟩
  refine ⟨_, rfl, _, rfl, fun mo dx hmo hdx nex => ?_⟩
  have s1 : Same H (upd (upd H dx (.own mo)) mo (.ins CM dx [])) := fun b u e => by
    rw [upd_ne (ne_of_none e hmo), upd_ne (ne_of_none e hdx)]
    exact e
  refine ⟨mo, dx, fa, ga, xs, (main : Int), room, fs, rfl, upd_same, s1 _ _ hga, s1 _ _ hfa, hfx.keep (fr_same s1), hfl, fun p nv H1 hp1 hp2 hp3 f1 f2 f3 f4 f5 k1 M1 hn1 => ⟨rfl, ?_⟩⟩
  subst hp1
  -- the machine is new
  have new : ∀ {G : Hp}, KeepM p H1 G → Same H G := fun {G} k b u e => by
    have e1 := s1 _ _ e
    exact k b u (ne_of_none e hmo) (ne_of_none e1 f1) (ne_of_none e1 f2) (ne_of_none e1 f3) (ne_of_none e1 f4) (ne_of_none e1 f5) (k1 _ _ (ne_of_none e hmo) e1)
  have hla1 := new KeepM.refl _ _ hla
  refine ⟨_, rfl, la, rfl, ⟨_, SqL.of hla1⟩, fun D hD => ?_⟩
  have sD := same_new hD (.dK [])
  refine dc_list (K := K) (a := la) (xs := sch.map V.int) (fun i G => Same H1 G ∧ ∃ kvs, G D = some (.dK kvs) ∧ kvs.length ≤ i) ⟨sD, [], upd_same, Nat.zero_le _⟩ (fun i G hi h => SqL.of (h.1 _ _ hla1)) ?_ ?_
  · rintro i x G hx ⟨sG, kvs, eD, hkl⟩
    rw [List.getElem?_map] at hx
    obtain ⟨y, hy, rfl⟩ := Option.map_eq_some_iff.mp hx
    have hil := (List.getElem?_eq_some_iff.mp hy).1
    refine ⟨rfl, ?_⟩
    refine tYes_if ?_
    refine ⟨_, rfl, kvs, Sum.inl y, rfl, eD, szl (by omega), same_upd hD sG _, _, upd_same, ?_⟩
    have := putK_lenC kvs (Sum.inl y : Key) (V.bl true)
    omega
  rintro H2 ⟨s2, kvs, eD, _⟩
  have M2 := M1.same s2
  have hn2 := hn1.keep s2
  have new2 : ∀ {G : Hp}, KeepM p H2 G → Same H G := fun {G} k => new ((KeepM.same s2).trans k)
  have hF2 : FsAt H2 fs p.fv := ⟨fa, xs, hp3, new2 KeepM.refl _ _ hfa, hfx.keep (fr_same (new2 KeepM.refl))⟩
  have nD : D ≠ p.mo ∧ D ≠ p.ho ∧ D ≠ p.hd ∧ D ≠ p.sa ∧ D ≠ p.ea ∧ D ≠ p.na := by
    obtain ⟨_, ⟨dy, o1⟩, ⟨⟨dz, o2⟩, kvs, o3, _⟩, ⟨_, o4, _⟩, ⟨_, o5, _⟩, ⟨_, o6, _⟩⟩ := M1
    exact ⟨(ne_of_none o1 hD).symm, (ne_of_none o2 hD).symm, (ne_of_none o3 hD).symm, (ne_of_none o4 hD).symm, (ne_of_none o5 hD).symm, (ne_of_none o6 hD).symm⟩
  obtain ⟨S0, p0⟩ := sim_start hgl hmn
  -- the loop
  show gName 6 (V.ref D) _ _ _
  have nD2 : ∀ {G : Hp}, KeepM p H2 G → G D = some (.dK kvs) := fun k' => k' _ _ nD.1 nD.2.1 nD.2.2.1 nD.2.2.2.1 nD.2.2.2.2.1 nD.2.2.2.2.2 eD
  have fin : ∀ {kk : Nat} {nP n : Nw} {mP m : Mc} {A : Nat → Nat → Prop}, RunW fs room kk nP mP nE mE → Sim fs.length A mP nP m n → n.run = false → n = nE ∧ m.evs = mE.evs ∧ m.ent = mE.ent := fun hr1 S hs => by
    have hp : _ = false := (S.n.run).symm.trans hs
    cases hr1 with
    | stop _ => exact ⟨S.n.same hp, S.e, S.t⟩
    | step h => rw [h] at hp; cases hp
  refine ⟨fun σ' G => ∃ (v5 v7 : Option V) (p' : Pl) (nv : V) (n : Nw) (m : Mc) (co : Int), σ' = [some (.ref ga), some (.int room), some (.ref la), some (.int (N : Int)), some (.ref p.mo), v5, some (.ref D), v7] ∧ p'.mo = p.mo ∧ Same H G ∧ MkAt CM CH G p' m nv co ∧ NwAt K G n nv ∧ n = nE ∧ n.run = false ∧ m.evs = mE.evs ∧ m.ent = mE.ent, ?_, ?_⟩
  · refine ⟨_, rfl, (N : Int), rfl, by omega, by omega, for_range (fun i σ G => ∃ (v5 v7 : Option V) (p' : Pl) (nv : V) (n nP : Nw) (m mP : Mc) (co : Int) (A : Nat → Nat → Prop) (kk : Nat), σ = [some (.ref ga), some (.int room), some (.ref la), some (.int (N : Int)), some (.ref p.mo), v5, some (.ref D), v7] ∧ NewP H2 p p' ∧ KeepM p H2 G ∧ MkAt CM CH G p' m nv co ∧ NwAt K G n nv ∧ FsAt G fs p'.fv ∧ RunW fs room kk nP mP nE mE ∧ Sim fs.length A mP nP m n ∧ POk mP nP ∧ kk + i ≤ N)
      ⟨none, none, p, nv, _, _, _, _, 0, _, k, rfl, NewP.refl, KeepM.refl, M2, hn2, hF2, hrun, S0, p0, by omega⟩ ?_ ?_⟩
    · rintro i σ G hi ⟨v5, v7, p', nv, n, nP, m, mP, co, A, kk, rfl, np, kG, MG, hnG, hFG, hrW, S, pk, hki⟩
      have hi2 : i < N := by simpa using hi
      obtain ⟨dxG, hoG⟩ := MG.o
      rw [np.mo] at hoG
      show gName 5 (V.int (0 + (i : Int))) _ _ _
      refine ⟨_, rfl, p.mo, dxG, _, rfl, hoG, p', m, nv, co, n, congrArg (fun a => [V.ref a]) np.mo.symm, MG, hnG, ?_⟩
      refine ⟨_, rfl, ?_⟩
      cases hrn : n.run with
      | false =>
        refine iteT ?_
        obtain ⟨e1, e2, e3⟩ := fin hrW S hrn
        exact ⟨_, v7, p', nv, n, m, co, rfl, np.mo, new2 kG, MG, hnG, e1, hrn, e2, e3⟩
      | true =>
        refine iteF ?_
        have hrP : nP.run = true := by rw [← S.n.run]; exact hrn
        refine ⟨fun σ' G1 => ∃ (p' : Pl) (nv : V) (n : Nw) (m : Mc) (co : Int) (A : Nat → Nat → Prop), σ' = [some (.ref ga), some (.int room), some (.ref la), some (.int (N : Int)), some (.ref p.mo), some (.int (0 + (i : Int))), some (.ref D), v7] ∧ NewP H2 p p' ∧ KeepM p H2 G1 ∧ MkAt CM CH G1 p' m nv co ∧ NwAt K G1 n nv ∧ FsAt G1 fs p'.fv ∧ Sim fs.length A mP nP m n, ?_, ?_⟩
        · refine ⟨_, rfl, _, rfl, D, _, rfl, DGet.k (k := Sum.inl (0 + (i : Int))) (nD2 kG), _, rfl, ?_⟩
          refine ite2 (fun _ => ?_) (fun _ => ?_)
          · have hco : ColOk fs.length m.cs m.stk n := by
              cases hrW with
              | stop h => rw [h] at hrP; cases hrP
              | step _ hsm hw hu' _ _ _ => exact col_ok S pk hrP hsm hw hu' hfl
            refine ⟨_, rfl, p.mo, dxG, _, rfl, hoG, fM_no_collect .., p', m, nv, co, fs, n, congrArg (fun a => [V.ref a]) np.mo.symm, MG, hnG, hFG, hco, fun met cs' stk' n' p2 nv' G' hcol ⟨d, s', ep, hd, hs⟩ k' M' hn' => ?_⟩
            have fr := MG.fr k'
            subst ep
            exact ⟨{ p' with hd := d, sa := s' }, nv', n', _, co + 1, _, rfl, ⟨np.mo, np.ho, np.ea, np.na, np.room, np.fv, in6_or kG hd, in6_or kG hs⟩, np.keep kG k', M', hn', hFG.keep fr, sim_col S pk hcol⟩
          · exact ⟨p', nv, n, m, co, A, rfl, np, kG, MG, hnG, hFG, S⟩
        rintro σ G1 ⟨p1, nv1, n1, m1, co1, A1, rfl, np1, kG1, MG1, hnG1, hFG1, S1⟩
        obtain ⟨k2, n2, m2, A2, n2', m2', hlt, hst, hfit, hsm, hrW2, S2, pk2⟩ := adv hgl hrW S1 pk hrP
        have hr1 : n1.run = true := by rw [S1.n.run]; exact hrP
        obtain ⟨dx1, ho1⟩ := MG1.o
        rw [np1.mo] at ho1
        refine ⟨_, rfl, p.mo, dx1, _, rfl, ho1, fM_no_step .., p1, m1, m2', nv1, co1, fs, n1, n2', congrArg (fun a => [V.ref a]) np1.mo.symm, MG1, hnG1, hFG1, hsm, hr1, hst, by rw [np1.room, hp2]; exact hfit, fun nv' G' k' M' hn' => ?_⟩
        exact ⟨_, v7, p1, nv', n2', n2, m2', m2, co1, A2, k2, rfl, np1, np1.keep kG1 k', M', hn', hFG1.keep (MG1.fr k'), hrW2, S2, pk2, by omega⟩
    · rintro σ G ⟨v5, v7, p', nv, n, nP, m, mP, co, A, kk, rfl, np, kG, MG, hnG, hFG, hrW, S, pk, hki⟩
      have h0 : kk = 0 := by omega
      subst h0
      have hrn : n.run = false := by
        rw [S.n.run]
        cases hrW with
        | stop h => exact h
      obtain ⟨e1, e2, e3⟩ := fin hrW S hrn
      exact ⟨v5, v7, p', nv, n, m, co, rfl, np.mo, new2 kG, MG, hnG, e1, hrn, e2, e3⟩
  rintro _ G ⟨v5, v7, p', nvE, n, m, co, rfl, hmo, sG, MG, hnG, en, hrn, ev, et⟩
  subst en
  obtain ⟨dxG, hoG⟩ := MG.o
  rw [hmo] at hoG
  -- the state
  refine ⟨fun σ' G' => ∃ sv : V, σ' = [some (.ref ga), some (.int room), some (.ref la), some (.int (N : Int)), some (.ref p.mo), v5, some (.ref D), some sv] ∧ Same G G' ∧ NwAt K G' n sv, ?_, ?_⟩
  · refine ⟨_, rfl, p.mo, dxG, _, rfl, hoG, p', m, nvE, co, n, congrArg (fun a => [V.ref a]) hmo.symm, MG, hnG, ?_⟩
    refine ⟨_, rfl, ?_⟩
    rw [hrn]
    refine iteT ?_
    exact ⟨_, rfl, p.mo, CM, dxG, _, _, rfl, hoG, T.cl, T.n_now, fM_now .., nvE, rfl, same_id, hnG⟩
  rintro _ G2 ⟨sv, rfl, s3, hsv⟩
  have MG2 := MG.same s3
  obtain ⟨dx2, ho2⟩ := MG2.o
  rw [hmo] at ho2
  obtain ⟨es, hes, hesA⟩ := id MG2.e
  refine ⟨_, rfl, p.mo, CM, dx2, _, _, rfl, ho2, T.cl, T.n_events, fM_events .., p'.ea, es, rfl, .inl ⟨SqL.of hes, fun te hte => ?_⟩⟩
  have s4 := same_new hte (.tup es)
  have eT : upd G2 te (.tup es) te = some (.tup es) := upd_same
  have MG3 := MG2.same s4
  generalize upd G2 te (.tup es) = G3 at s4 eT MG3 ⊢
  obtain ⟨dx3, ho3⟩ := MG3.o
  rw [hmo] at ho3
  obtain ⟨ns, hns, hnsA⟩ := id MG3.n
  have hnl := ats_len hnsA
  rw [List.length_map, et] at hnl
  rw [ev] at hesA
  refine ⟨_, rfl, _, rfl, p.mo, CM, dx3, _, _, rfl, ho3, T.cl, T.n_entered, fM_entered .., p'.na, ns, rfl, .inl (SqL.of hns), _, rfl, p.mo, CM, dx3, _, _, rfl, ho3, T.cl, T.n_collections, fM_collections .., by show 4 ≤ sizeLine; decide, fun t ht => ?_⟩
  have s5 := same_new ht (.tup [.ref te, sv, .int (ns.length : Int), .int co])
  refine q _ _ (sameT sG (sameT s3 (sameT s4 s5))) ⟨t, te, sv, es, co, rfl, ?_, s5 _ _ eT, hesA.keep (fr_same (sameT s4 s5)), hsv.keep (sameT s4 s5)⟩
  rw [upd_same, hnl]
end
end Toy

set_option Elab.async false
set_option linter.all false
set_option maxRecDepth 100000
set_option maxHeartbeats 4000000
/-! Part E: plain runs, step by step. -/
namespace Toy
open PySem L2
/-- there is room for so many steps that take so much -/
structure Hs (room : Int) (B : Nat) (U : Nat) (m : Mc) : Prop where
  c : m.cs.length + 10 * B ≤ 90000
  s : m.stk.length + B ≤ 90000
  e : m.evs.length + B ≤ 90000
  n : m.ent.length + B ≤ 90000
  u : used m.cs + (U : Int) ≤ room
  r : room ≤ 90000
  f : ∀ f ∈ m.stk, f.ws.length ≤ 150
section
variable {fs : List (Int × Dd)} {room : Int} {B U : Nat} {m : Mc}
theorem Hs.small (h : Hs room B U m) : m.small := ⟨by have := h.c; omega, by have := h.s; omega, by have := h.e; omega, by have := h.n; omega⟩
theorem Hs.use (h : Hs room B U m) : used m.cs ≤ 90000 := by have := h.u; have := h.r; omega
theorem Hs.le (h : Hs room B U m) {B' U' : Nat} (e : B' ≤ B) (e2 : U' ≤ U) : Hs room B' U' m := ⟨by have := h.c; omega, by have := h.s; omega, by have := h.e; omega, by have := h.n; omega, by have := h.u; omega, h.r, h.f⟩
theorem Hs.push (h : Hs room (B + 1) U m) {f : Fm} (hf : f.ws.length ≤ 150) : Hs room B U (m.push f) := ⟨by have := h.c; show m.cs.length + 10 * B ≤ 90000; omega, by have := h.s; show (m.stk ++ [f]).length + B ≤ 90000; rw [List.length_append]; show m.stk.length + 1 + B ≤ 90000; omega, by have := h.e; show m.evs.length + B ≤ 90000; omega, by have := h.n; show m.ent.length + B ≤ 90000; omega, h.u, h.r, fun g hg => by
  rcases List.mem_append.mp (show g ∈ m.stk ++ [f] from hg) with e | e
  · exact h.f g e
  · rw [List.mem_singleton.mp e]; exact hf⟩
theorem Hs.ev (h : Hs room (B + 1) U m) (f : Ev) : Hs room B U (m.ev f) := ⟨by have := h.c; show m.cs.length + 10 * B ≤ 90000; omega, by have := h.s; show m.stk.length + B ≤ 90000; omega, by have := h.e; show (m.evs ++ [f]).length + B ≤ 90000; rw [List.length_append]; show m.evs.length + 1 + B ≤ 90000; omega, by have := h.n; show m.ent.length + B ≤ 90000; omega, h.u, h.r, h.f⟩
theorem Hs.pop (h : Hs room B U m) {stk : List Fm} {f : Fm} (e : m.stk = stk ++ [f]) : Hs room B U { m with stk := stk } := ⟨h.c, by have := h.s; rw [e, List.length_append] at this; show stk.length + B ≤ 90000; have this : stk.length + 1 + B ≤ 90000 := this; omega, h.e, h.n, h.u, h.r, fun g hg => h.f g (by rw [e]; exact List.mem_append_left _ hg)⟩
theorem Hs.app {C : Nat} (h : Hs room (B + 1) (U + C) m) {cl : List Cl} {s' : Int} (hl : cl.length ≤ 10) (hu : used cl ≤ (C : Int)) : Hs room B U { m with cs := m.cs ++ cl, ser := s' } := ⟨by have := h.c; show (m.cs ++ cl).length + 10 * B ≤ 90000; rw [List.length_append]; omega, by have := h.s; show m.stk.length + B ≤ 90000; omega, by have := h.e; show m.evs.length + B ≤ 90000; omega, by have := h.n; show m.ent.length + B ≤ 90000; omega, by
  have := h.u
  show used (m.cs ++ cl) + (U : Int) ≤ room
  rw [used_app]
  omega, h.r, h.f⟩
theorem Hs.cell {C : Nat} (h : Hs room (B + 1) (U + C) m) {c : Cl} (e : c.size ≤ C) : Hs room B U (m.cell c) :=
  h.app (cl := [c]) (s' := m.ser) (by show 1 ≤ 10; decide) (by show (c.size : Int) + 0 ≤ _; omega)
theorem Hs.set (h : Hs room B U m) {a : Nat} {c d : Cl} (e : m.cs[a]? = some d) (hz : c.size ≤ d.size) : Hs room B U { m with cs := m.cs.set a c } := ⟨by have := h.c; show (m.cs.set a c).length + 10 * B ≤ 90000; rw [List.length_set]; exact this, h.s, h.e, h.n, by
  have := h.u
  show used (m.cs.set a c) + (U : Int) ≤ room
  rw [used_set e]
  omega, h.r, h.f⟩
/-- a delayed cell is entered -/
theorem Hs.enter (h : Hs room (B + 1) U m) {a : Nat} {b : Dd} {ws : List Int} {s : Int} (e : m.cs[a]? = some (.lat b ws s)) : Hs room B U { m with cs := m.cs.set a .hole, ent := m.ent ++ [s], stk := m.stk ++ [.upd (a : Int)] } := by
  have h1 : Hs room (B + 1) U { m with cs := m.cs.set a .hole } := h.set e (by show 2 ≤ max 2 (1 + ws.length); omega)
  have h2 := h1.push (f := .upd (a : Int)) (by show 1 ≤ 150; decide)
  exact ⟨h2.c, h2.s, h2.e, by have := h.n; show (m.ent ++ [s]).length + B ≤ 90000; rw [List.length_append]; show m.ent.length + 1 + B ≤ 90000; omega, h2.u, h2.r, h2.f⟩
/-! ### steps -/
variable {k : Nat} {n nE : Nw} {m1 mE : Mc}
theorem RunW.en {w : Int} (h : EnS w m n m1) (hs : Hs room B U m) (r : RunW fs room k n m1 nE mE) : RunW fs room (k + 1) (.enter w) m nE mE :=
  .step rfl hs.small ⟨hs.f, by show 1 ≤ 150; decide⟩ hs.use (.enter h) (fun z hz => by have hz : z = 0 := hz; have := hs.u; omega) r
theorem RunW.ev {z : Wd} {r0 : List Dd} {ws : List Int} (h : EvS z r0 ws m n m1) (hw : ws.length ≤ 150) (hs : Hs room B U m) (hu : needE (.tup (.str z.str :: r0)) ≤ (U : Int)) (r : RunW fs room k n m1 nE mE) : RunW fs room (k + 1) (.eval (.tup (.str z.str :: r0)) ws) m nE mE :=
  .step rfl hs.small ⟨hs.f, hw⟩ hs.use (.eval h) (fun z hz => by have hz : z = _ := hz; rw [hz]; have := hs.u; omega) r
theorem need0 {z : Wd} (h1 : z.str ≠ "con") (h2 : z.str ≠ "let") (r : List Dd) : needE (.tup (.str z.str :: r)) = 0 := by
  show (if _ = _ then _ else if _ = _ then _ else (0 : Int)) = 0
  rw [if_neg h1, if_neg h2]
theorem RunW.ev0 {z : Wd} {r0 : List Dd} {ws : List Int} (h1 : z.str ≠ "con") (h2 : z.str ≠ "let") (h : EvS z r0 ws m n m1) (hw : ws.length ≤ 150) (hs : Hs room B U m) (r : RunW fs room k n m1 nE mE) : RunW fs room (k + 1) (.eval (.tup (.str z.str :: r0)) ws) m nE mE :=
  RunW.ev h hw hs (by rw [need0 h1 h2]; omega) r
theorem RunW.vl {w : Int} {f : Fm} {l : Vl} {stk : List Fm} (hst : m.stk = stk ++ [f]) (hl : VlS w m l) (h : MtS fs f w { m with stk := stk } n m1) (hs : Hs room B U m) (hu : needM fs f l ≤ (U : Int)) (r : RunW fs room k n m1 nE mE) : RunW fs room (k + 1) (.val w) m nE mE :=
  .step rfl hs.small ⟨hs.f, by show 1 ≤ 150; decide⟩ hs.use (.val hst hl h) (fun z hz => by
    obtain ⟨stk', f', l', e1, e2, e3⟩ := hz
    rw [hst] at e1
    obtain ⟨_, e4⟩ := List.append_inj' e1 rfl
    cases e4
    have := hl.det e2 rfl
    subst this
    have := hs.u
    omega) r
theorem needM_no {f : Fm} {l : Vl} (h1 : ∀ ws, f ≠ .apply ws) (h2 : ∀ s i, f ≠ .prim s i) : needM fs f l = 0 := by
  unfold needM
  split
  · exact absurd rfl (h1 _)
  · exact absurd rfl (h2 _ _)
  · rfl
theorem RunW.vl0 {w : Int} {f : Fm} {l : Vl} {stk : List Fm} (hst : m.stk = stk ++ [f]) (hl : VlS w m l) (h : MtS fs f w { m with stk := stk } n m1) (h1 : ∀ ws, f ≠ .apply ws) (h2 : ∀ s i, f ≠ .prim s i) (hs : Hs room B U m) (r : RunW fs room k n m1 nE mE) : RunW fs room (k + 1) (.val w) m nE mE :=
  RunW.vl hst hl h hs (by rw [needM_no h1 h2]; omega) r
theorem RunW.mono (h : RunW fs room k n m nE mE) (j : Nat) : RunW fs room (k + j) n m nE mE := by
  induction h with
  | stop h => exact .stop h
  | @step k _ _ _ _ _ _ h1 h2 h3 h4 h5 h6 _ ih =>
    rw [show k + 1 + j = k + j + 1 by omega]
    exact .step h1 h2 h3 h4 h5 h6 ih
theorem RunW.more {k' : Nat} (h : RunW fs room k n m nE mE) (e : k ≤ k') : RunW fs room k' n m nE mE := by
  have := h.mono (k' - k)
  rwa [show k + (k' - k) = k' by omega] at this
end
theorem needE_let2 {ms : List Dd} {b : Dd} : needE (.tup [.str "let", .tup ms, b]) = (ms.map mbSize).sum := by
  show (if ("let" : Str) = "con" then 1 + ((tl b).length : Int) else if ("let" : Str) = "let" then ((tl (.tup ms)).map mbSize).sum else 0) = _
  rw [if_neg (by decide +kernel), if_pos rfl]
  rfl
def slotD (i : Int) : Dd := .tup [.str "slot", .int i]
def numD (i : Int) : Dd := .tup [.str "number", .int i]
def globD (i : Int) : Dd := .tup [.str "global", .int i]
def giveD (o : Dd) : Dd := .tup [.str "give", o]
def laterD (os : List Dd) (b : Dd) : Dd := .tup [.str "later", .tup os, b]
def letD (ms : List Dd) (b : Dd) : Dd := .tup [.str "let", .tup ms, b]
def conD (t : Int) (os : List Dd) : Dd := .tup [.str "con", .int t, .tup os]
theorem op_slot {i : Nat} {ws : List Int} {w : Int} (h : ws[i]? = some w) : OpS (slotD (i : Int)) ws w := .slot h
theorem op_num (i : Int) (ws : List Int) : OpS (numD i) ws (2 * i + 1) := .num
section
variable {fs : List (Int × Dd)} {room : Int} {B U : Nat} {m : Mc} {k : Nat} {nE : Nw} {mE : Mc}
theorem RunW.give {o : Dd} {ws : List Int} {w : Int} (h : OpS o ws w) (hw : ws.length ≤ 150) (hs : Hs room B U m) (r : RunW fs room k (.enter w) m nE mE) : RunW fs room (k + 1) (.eval (giveD o) ws) m nE mE :=
  RunW.ev0 (z := .give) (by decide +kernel) (by decide +kernel) (.give h) hw hs r
/-- a number is entered, and is a value -/
theorem RunW.num {i : Int} (hs : Hs room B U m) (r : RunW fs room k (.val (2 * i + 1)) m nE mE) : RunW fs room (k + 1) (.enter (2 * i + 1)) m nE mE := RunW.en .odd hs r
/-- a delayed cell is entered -/
theorem RunW.lat {a : Nat} {b : Dd} {ws : List Int} {s : Int} (h : m.cs[a]? = some (.lat b ws s)) (hs : Hs room B U m) (r : RunW fs room k (.eval b ws) { m with cs := m.cs.set a .hole, ent := m.ent ++ [s], stk := m.stk ++ [.upd (a : Int)] } nE mE) : RunW fs room (k + 1) (.enter (2 * (a : Int))) m nE mE := RunW.en (.lat h) hs r
theorem RunW.con {t : Int} {os : List Dd} {ws vs : List Int} {C : Nat} (h : OpsS os ws vs) (hl : os.length ≤ 1000) (hw : ws.length ≤ 150) (hs : Hs room B (U + C) m) (hC : 1 + os.length ≤ C) (r : RunW fs room k (.val (2 * (m.cs.length : Int))) (m.cell (.con t vs)) nE mE) : RunW fs room (k + 1) (.eval (conD t os) ws) m nE mE :=
  RunW.ev (z := .con) (.con h hl) hw hs (by
    have e : needE (.tup (.str Wd.con.str :: [.int t, .tup os])) = 1 + (os.length : Int) := needE_con
    rw [e]
    omega) r
theorem RunW.lt {ms : List Dd} {b : Dd} {ws : List Int} {cl : List Cl} {s' : Int} {C : Nat} (h : MbsS ms (ws ++ lets m.cs.length ms.length) m.ser cl s') (hl : ms.length ≤ 10) (hw : ws.length ≤ 150) (hs : Hs room B (U + C) m) (hC : used cl ≤ (C : Int)) (r : RunW fs room k (.eval b (ws ++ lets m.cs.length ms.length)) { m with cs := m.cs ++ cl, ser := s' } nE mE) : RunW fs room (k + 1) (.eval (letD ms b) ws) m nE mE :=
  RunW.ev (z := .lt) (.lt h (by omega) (by omega)) hw hs (by
    have e : needE (.tup (.str Wd.lt.str :: [.tup ms, b])) = (ms.map mbSize).sum := needE_let2
    rw [e, ← h.size]
    omega) r
/-- a cell that was entered gets its value -/
theorem RunW.upd {w : Int} {a : Nat} {stk : List Fm} {l : Vl} {c : Cl} (hst : m.stk = stk ++ [.upd (a : Int)]) (hl : VlS w m l) (hc : m.cs[a]? = some c) (hs : Hs room B U m) (r : RunW fs room k (.val w) { m with cs := m.cs.set a (.on w), stk := stk } nE mE) : RunW fs room (k + 1) (.val w) m nE mE :=
  RunW.vl0 hst hl (.upd (m := { m with stk := stk }) hc) (fun ws z => by cases z) (fun s i z => by cases z) hs r
/-- a pair is shown: its first number is needed -/
theorem RunW.cons {w a b : Int} {stk : List Fm} (hst : m.stk = stk ++ [.show]) (hl : VlS w m (.cell (.con 1 [a, b]))) (hs : Hs room B U m) (r : RunW fs room k (.enter a) { m with stk := stk ++ [.head b] } nE mE) : RunW fs room (k + 1) (.val w) m nE mE :=
  RunW.vl0 hst hl (.showCons (by cases hl with | even h => exact .even h)) (fun ws z => by cases z) (fun s i z => by cases z) hs r
theorem RunW.head {i b : Int} {stk : List Fm} (hst : m.stk = stk ++ [.head b]) (hs : Hs room B U m) (r : RunW fs room k (.enter b) { m with evs := m.evs ++ [.shw i], stk := stk ++ [.show] } nE mE) : RunW fs room (k + 1) (.val (2 * i + 1)) m nE mE :=
  RunW.vl0 hst .odd (.head .odd) (fun ws z => by cases z) (fun s i z => by cases z) hs r
end
end Toy

set_option Elab.async false
set_option linter.all false
set_option maxRecDepth 100000
set_option maxHeartbeats 4000000
/-! Part F: what the law's code does. -/
namespace Toy
open PySem L2
def primD (s : Str) (a b : Dd) : Dd := .tup [.str "prim", .str s, a, b]
def needsB (t : Nat) : Dd := match t with
  | 0 => giveD (slotD 0)
  | 1 => primD "+" (numD 1) (slotD 0)
  | 2 => primD "*" (slotD 0) (numD 0)
  | 3 => .tup [.str "pick", giveD (slotD 0), .tup [.tup [.int 0, giveD (numD 4)]], .non]
  | 4 => .tup [.str "call", globD 1, .tup [slotD 0, numD 3]]
  | _ => .tup [.str "seq", giveD (slotD 0), giveD (numD 5)]
def firstB : Dd := primD "-" (slotD 0) (slotD 1)
section
variable {main : Dd} {room : Int} {B U : Nat} {m : Mc}
theorem sl0 (v : Int) (ws : List Int) : OpS (slotD 0) (v :: ws) v := op_slot (i := 0) rfl
/-- a number that is worked out needs what it is told to need -/
theorem needs_run (t : Nat) (v : Int) (h1 : m.cs[1]? = some (.part 1 [])) (hs : Hs room (B + 5) U m) : ∃ m', Hs room B U m' ∧ m'.cs = m.cs ∧ m'.evs = m.evs ∧ m'.ent = m.ent ∧ ∀ {k : Nat} {nE : Nw} {mE : Mc}, RunW [(0, main), (2, firstB)] room k (.enter v) m' nE mE → RunW [(0, main), (2, firstB)] room (k + 5) (.eval (needsB t) [v]) m nE mE := by
  have l1 : ∀ w : Int, [w].length ≤ 150 := fun w => by show 1 ≤ 150; decide
  match t with
  | 0 => exact ⟨m, hs.le (by omega) (Nat.le_refl _), rfl, rfl, rfl, fun r => (RunW.give (sl0 v []) (l1 v) hs r).more (by omega)⟩
  | 1 =>
    have h2 := (hs.le (B' := B + 4) (by omega) (Nat.le_refl _)).push (f := .right "+" (slotD 0) [v]) (l1 v)
    have hst : (m.push (.right "+" (slotD 0) [v])).stk = m.stk ++ [.right "+" (slotD 0) [v]] := rfl
    have h3 := (h2.pop hst).le (B' := B + 1) (by omega) (Nat.le_refl _) |>.push (f := .prim "+" 1) (by show 0 ≤ 150; decide)
    refine ⟨_, h3, rfl, rfl, rfl, fun {k nE mE} r => ?_⟩
    refine RunW.more (k := k + 1 + 1 + 1) ?_ (by omega)
    refine RunW.ev0 (z := .prim) (by decide +kernel) (by decide +kernel) (.prim (op_num 1 [v]) (by decide +kernel)) (l1 v) hs ?_
    refine RunW.num (i := 1) h2 ?_
    exact RunW.vl0 hst .odd (.right .odd (sl0 v []) (by decide +kernel)) (fun ws z => by cases z) (fun s i z => by cases z) h2 r
  | 2 =>
    have h2 := (hs.le (B' := B + 1) (by omega) (Nat.le_refl _)).push (f := .right "*" (numD 0) [v]) (l1 v)
    refine ⟨_, h2, rfl, rfl, rfl, fun {k nE mE} r => ?_⟩
    exact (RunW.ev0 (z := .prim) (by decide +kernel) (by decide +kernel) (.prim (sl0 v []) (by decide +kernel)) (l1 v) hs r).more (by omega)
  | 3 =>
    have h2 := (hs.le (B' := B + 1) (by omega) (Nat.le_refl _)).push (f := .ch false [.tup [.int 0, giveD (numD 4)]] .non [v]) (l1 v)
    refine ⟨_, h2, rfl, rfl, rfl, fun {k nE mE} r => ?_⟩
    exact (RunW.ev0 (z := .ch false) (by decide +kernel) (by decide +kernel) .ch (l1 v) hs (RunW.give (sl0 v []) (l1 v) h2 r)).more (by omega)
  | 4 =>
    have h2 := (hs.le (B' := B + 4) (by omega) (Nat.le_refl _)).push (f := .apply [v, 7]) (by show 2 ≤ 150; decide)
    have hst : (m.push (.apply [v, 7])).stk = m.stk ++ [.apply [v, 7]] := rfl
    have h3 := h2.pop hst
    have h4 := (h3.le (B' := B + 1) (by omega) (Nat.le_refl _)).push (f := .right "-" (slotD 1) [v, 7]) (by show 2 ≤ 150; decide)
    refine ⟨_, h4, rfl, rfl, rfl, fun {k nE mE} r => ?_⟩
    refine RunW.more (k := k + 1 + 1 + 1 + 1) ?_ (by omega)
    refine RunW.ev0 (z := .call) (r0 := [globD 1, .tup [slotD 0, numD 3]]) (by decide +kernel) (by decide +kernel) (.call .glob (.cons (sl0 v []) (.cons (op_num 3 [v]) .nil)) (by show 2 ≤ 1000; decide)) (l1 v) hs ?_
    refine RunW.en (w := 2 * ((1 : Nat) : Int)) (.val h1 (.inr rfl)) h2 ?_
    refine RunW.vl hst (.even (n := 1) h1) (MtS.full (ar := 2) (i := 1) (VlS.even (n := 1) h1) rfl rfl (by show 2 ≤ 90000; decide)) h2 ?_ ?_
    · show (if (((0 + 2 : Nat) : Int)) < 2 then 1 + ((0 + 2 : Nat) : Int) else (0 : Int)) ≤ _
      rw [if_neg (by decide)]
      omega
    · exact RunW.ev0 (z := .prim) (by decide +kernel) (by decide +kernel) (.prim (sl0 v [7]) (by decide +kernel)) (by show 2 ≤ 150; decide) h3 r
  | t + 5 =>
    have h2 := (hs.le (B' := B + 1) (by omega) (Nat.le_refl _)).push (f := .seq (giveD (numD 5)) [v]) (l1 v)
    refine ⟨_, h2, rfl, rfl, rfl, fun {k nE mE} r => ?_⟩
    exact (RunW.ev0 (z := .seq) (by decide +kernel) (by decide +kernel) .seq (l1 v) hs (RunW.give (sl0 v []) (l1 v) h2 r)).more (by omega)
/-! ### the circle -/
def idx (M s i : Nat) : Nat := if s + i < M then s + i else s + i - M
theorem idx_lt {M s i : Nat} (hs : s < M) (hi : i ≤ M) : idx M s i < M := by unfold idx; split <;> omega
theorem idx_inj {M s i j : Nat} (hs : s < M) (hi : i < M) (hj : j < M) (h : idx M s i = idx M s j) : i = j := by
  unfold idx at h
  split at h <;> split at h <;> omega
theorem idx_end {M s : Nat} (hs : s < M) : idx M s M = idx M s 0 := by unfold idx; split <;> split <;> omega
theorem idx_zero {M s : Nat} (hs : s < M) : idx M s 0 = s := by unfold idx; split <;> omega
theorem idx_next {M s i : Nat} (hs : s < M) (hi : i < M) : (idx M s i + 1) % M = idx M s (i + 1) := by
  have h1 := idx_lt hs (Nat.le_of_lt hi)
  by_cases c : idx M s i + 1 = M
  · rw [c, Nat.mod_self]
    revert c
    unfold idx
    split <;> split <;> omega
  · rw [Nat.mod_eq_of_lt (by omega)]
    revert c
    unfold idx
    split <;> split <;> omega
def wA (a : Nat) : Int := 2 * (a : Int)
/-- the circle, some of it entered -/
structure Circ (M s : Nat) (ts : Nat → Nat) (i : Nat) (cs : List Cl) : Prop where
  f : cs[1]? = some (.part 1 [])
  l : ∀ j, i ≤ j → j < M → ∃ sr, cs[2 + idx M s j]? = some (.lat (needsB (ts (idx M s j))) [wA (2 + idx M s (j + 1))] sr)
  h : ∀ j, j < i → cs[2 + idx M s j]? = some .hole
theorem chain {M s : Nat} {ts : Nat → Nat} (hM : s < M) : ∀ (d i : Nat), i + d = M → ∀ {m : Mc} {B : Nat}, Circ M s ts i m.cs → Hs room (6 * d + 1 + B) U m → ∃ mE, mE.evs = m.evs ∧ mE.ent.length = m.ent.length + d ∧ RunW [(0, main), (2, firstB)] room (6 * d + 1) (.enter (wA (2 + idx M s i))) m .loop mE
  | 0, i, hi, m, B, hc, hs => by
    have hi : i = M := by omega
    subst hi
    refine ⟨m, rfl, rfl, ?_⟩
    rw [idx_end hM]
    exact RunW.en (.hole (hc.h 0 (by omega))) hs (.stop rfl)
  | d + 1, i, hi, m, B, hc, hs => by
    obtain ⟨sr, hl⟩ := hc.l i (Nat.le_refl _) (by omega)
    have hal := (List.getElem?_eq_some_iff.mp hl).1
    have h1 : Hs room (6 * d + 1 + B + 5 + 1) U m := hs.le (by omega) (Nat.le_refl _)
    have h2 := h1.enter hl
    have f1 : (m.cs.set (2 + idx M s i) Cl.hole)[1]? = some (.part 1 []) := by rw [List.getElem?_set_ne (by omega)]; exact hc.f
    obtain ⟨m', h3, e1, e2, e3, hrun⟩ := needs_run (main := main) (ts (idx M s i)) (wA (2 + idx M s (i + 1))) f1 h2
    have hc' : Circ M s ts (i + 1) m'.cs := by
      rw [e1]
      refine ⟨f1, fun j h4 h5 => ?_, fun j h4 => ?_⟩
      · obtain ⟨sr2, h6⟩ := hc.l j (by omega) h5
        refine ⟨sr2, ?_⟩
        show (m.cs.set (2 + idx M s i) Cl.hole)[_]? = _
        rw [List.getElem?_set_ne (fun z => by have := idx_inj hM (i := i) (j := j) (by omega) h5 (by omega); omega)]
        exact h6
      · show (m.cs.set (2 + idx M s i) Cl.hole)[_]? = _
        by_cases c : j = i
        · subst c
          rw [List.getElem?_set_self hal]
        · rw [List.getElem?_set_ne (fun z => by have := idx_inj hM (i := i) (j := j) (by omega) (by omega) (by omega); omega)]
          exact hc.h j (by omega)
    obtain ⟨mE, g1, g2, g3⟩ := chain hM d (i + 1) (by omega) hc' h3
    refine ⟨mE, g1.trans e2, ?_, ?_⟩
    · rw [g2, e3]
      show (m.ent ++ [sr]).length + d = _
      rw [List.length_append]
      show m.ent.length + 1 + d = _
      omega
    · refine RunW.more (k := 6 * d + 1 + 5 + 1) ?_ (by omega)
      exact RunW.lat hl h1 (hrun g3)
/-! ### the numbers ahead of it -/
def lastB : Dd := letD [laterD [slotD 0] (giveD (slotD 0)), laterD [] (conD 0 [])] (conD 1 [slotD 1, slotD 2])
def bodyB : List Int → Dd
  | [] => lastB
  | n :: ns => letD [laterD [slotD 0] (bodyB ns)] (conD 1 [numD n, slotD 1])
theorem Circ.app {M s : Nat} {ts : Nat → Nat} {cs : List Cl} (h : Circ M s ts 0 cs) (cl : List Cl) : Circ M s ts 0 (cs ++ cl) := by
  have up : ∀ {a : Nat} {c : Cl}, cs[a]? = some c → (cs ++ cl)[a]? = some c := fun e => by rw [List.getElem?_append_left (List.getElem?_eq_some_iff.mp e).1]; exact e
  exact ⟨up h.f, fun j h1 h2 => by obtain ⟨sr, h3⟩ := h.l j h1 h2; exact ⟨sr, up h3⟩, fun j hj => absurd hj (Nat.not_lt_zero _)⟩
theorem Circ.set {M s : Nat} {ts : Nat → Nat} {cs : List Cl} (hM : s < M) (h : Circ M s ts 0 cs) {a : Nat} (c : Cl) (ha : a = 0 ∨ 2 + M ≤ a) : Circ M s ts 0 (cs.set a c) := by
  have up : ∀ {x : Nat} {d : Cl}, x ≠ a → cs[x]? = some d → (cs.set a c)[x]? = some d := fun n e => by rw [List.getElem?_set_ne (Ne.symm n)]; exact e
  refine ⟨up (by omega) h.f, fun j h1 h2 => ?_, fun j hj => absurd hj (Nat.not_lt_zero _)⟩
  obtain ⟨sr, h3⟩ := h.l j h1 h2
  have := idx_lt hM (Nat.le_of_lt h2)
  exact ⟨sr, up (by omega) h3⟩
/-- cells that were entered get their value -/
theorem pops {M s : Nat} {ts : Nat → Nat} (hM : s < M) {b : Nat} {c : Cl} : ∀ (rs : List Nat) {m : Mc} {B : Nat}, m.stk = .show :: (rs.reverse.map fun a : Nat => Fm.upd (a : Int)) → (∀ a ∈ rs, (a = 0 ∨ 2 + M ≤ a) ∧ a < m.cs.length ∧ a ≠ b ∧ ∃ d, m.cs[a]? = some d ∧ 2 ≤ d.size) → m.cs[b]? = some c → Circ M s ts 0 m.cs → Hs room (B + rs.length) U m →
    ∃ m', m'.stk = [.show] ∧ m'.cs.length = m.cs.length ∧ m'.evs = m.evs ∧ m'.ent = m.ent ∧ m'.ser = m.ser ∧ m'.cs[b]? = some c ∧ (∀ x : Nat, x ∉ rs → m'.cs[x]? = m.cs[x]?) ∧ Circ M s ts 0 m'.cs ∧ Hs room B U m' ∧ ∀ {k : Nat} {nE : Nw} {mE : Mc}, RunW [(0, main), (2, firstB)] room k (.val (wA b)) m' nE mE → RunW [(0, main), (2, firstB)] room (k + rs.length) (.val (wA b)) m nE mE
  | [], m, B, hst, _, hb, hc, hs => ⟨m, hst, rfl, rfl, rfl, rfl, hb, fun _ _ => rfl, hc, hs, fun r => r⟩
  | a :: rs, m, B, hst, ha, hb, hc, hs => by
    obtain ⟨h1, h2, h3, d, h4, h5⟩ := ha a (List.mem_cons_self ..)
    have hst' : m.stk = (.show :: (rs.reverse.map fun a : Nat => Fm.upd (a : Int))) ++ [.upd (a : Int)] := by rw [hst, List.reverse_cons, List.map_append]; rfl
    have g1 : Hs room (B + rs.length) U { m with stk := .show :: (rs.reverse.map fun a : Nat => Fm.upd (a : Int)) } := (hs.pop hst').le (by rw [List.length_cons]; omega) (Nat.le_refl _)
    have g2 := g1.set (c := .on (wA b)) h4 (by show 2 ≤ d.size; exact h5)
    by_cases hin : a ∈ rs
    · obtain ⟨m', k1, k2, k3, k4, k5, k6, k7, k8, k9, k10⟩ := pops hM (b := b) (c := c) rs (m := { m with stk := .show :: (rs.reverse.map fun a : Nat => Fm.upd (a : Int)), cs := m.cs.set a (.on (wA b)) }) rfl (fun x hx => by
          obtain ⟨q1, q2, q3, e, q4, q5⟩ := ha x (List.mem_cons_of_mem _ hx)
          refine ⟨q1, by show x < (m.cs.set a _).length; rw [List.length_set]; exact q2, q3, ?_⟩
          by_cases z : x = a
          · subst z
            exact ⟨.on (wA b), List.getElem?_set_self h2, Nat.le_refl 2⟩
          · exact ⟨e, by show (m.cs.set a _)[x]? = _; rw [List.getElem?_set_ne (Ne.symm z)]; exact q4, q5⟩) (by show (m.cs.set a _)[b]? = _; rw [List.getElem?_set_ne h3]; exact hb) (hc.set hM _ h1) g2
      refine ⟨m', k1, by rw [k2]; exact List.length_set, k3, k4, k5, k6, fun x hx => ?_, k8, k9, fun r => ?_⟩
      · rw [k7 x fun z => hx (List.mem_cons_of_mem _ z)]
        show (m.cs.set a _)[x]? = _
        rw [List.getElem?_set_ne (fun z => hx (by rw [← z]; exact List.mem_cons_self ..))]
      · rw [List.length_cons, ← Nat.add_assoc]
        exact RunW.upd hst' (.even hb) h4 hs (k10 r)
    · obtain ⟨m', k1, k2, k3, k4, k5, k6, k7, k8, k9, k10⟩ := pops hM (b := b) (c := c) rs (m := { m with stk := .show :: (rs.reverse.map fun a : Nat => Fm.upd (a : Int)), cs := m.cs.set a (.on (wA b)) }) rfl (fun x hx => by
          obtain ⟨q1, q2, q3, e, q4, q5⟩ := ha x (List.mem_cons_of_mem _ hx)
          exact ⟨q1, by show x < (m.cs.set a _).length; rw [List.length_set]; exact q2, q3, e, by show (m.cs.set a _)[x]? = _; rw [List.getElem?_set_ne (fun z => hin (by rw [z]; exact hx))]; exact q4, q5⟩) (by show (m.cs.set a _)[b]? = _; rw [List.getElem?_set_ne h3]; exact hb) (hc.set hM _ h1) g2
      refine ⟨m', k1, by rw [k2]; exact List.length_set, k3, k4, k5, k6, fun x hx => ?_, k8, k9, fun r => ?_⟩
      · rw [k7 x fun z => hx (List.mem_cons_of_mem _ z)]
        show (m.cs.set a _)[x]? = _
        rw [List.getElem?_set_ne (fun z => hx (by rw [← z]; exact List.mem_cons_self ..))]
      · rw [List.length_cons, ← Nat.add_assoc]
        exact RunW.upd hst' (.even hb) h4 hs (k10 r)
end
end Toy

set_option Elab.async false
set_option linter.all false
set_option maxRecDepth 100000
set_option maxHeartbeats 4000000
/-! Part G: the whole run. -/
namespace Toy
open PySem L2
section
variable {main : Dd} {room : Int} {U : Nat} {m : Mc}
theorem lets_one (L : Nat) : lets L 1 = [wA L] := rfl
theorem lat_size (b : Dd) (w : Int) (s : Int) : (Cl.lat b [w] s).size = 2 := rfl
theorem Hs.swap {B : Nat} (h : Hs room (B + 1) U m) {f g : Fm} {stk : List Fm} (e : m.stk = stk ++ [f]) (hg : g.ws.length ≤ 150) : Hs room B U { m with stk := stk ++ [g] } := (h.pop e).push hg
theorem body_run {M s : Nat} {ts : Nat → Nat} (hM : s < M) : ∀ (ns : List Int) {m : Mc} {rs : List Nat} {B U : Nat}, m.stk = .show :: (rs.reverse.map fun a : Nat => Fm.upd (a : Int)) → rs.length ≤ 2 → (∀ a ∈ rs, (a = 0 ∨ 2 + M ≤ a) ∧ a < m.cs.length ∧ ∃ d, m.cs[a]? = some d ∧ 2 ≤ d.size) → Circ M s ts 0 m.cs → 2 + M ≤ m.cs.length → Hs room (9 * ns.length + 9 + (6 * M + 1) + B) (5 * ns.length + 7 + U) m →
    ∃ mE, mE.evs = m.evs ++ ns.map Ev.shw ∧ mE.ent.length = m.ent.length + ns.length + 1 + M ∧ RunW [(0, main), (2, firstB)] room (9 * ns.length + 9 + (6 * M + 1)) (.eval (bodyB ns) [wA (2 + s)]) m .loop mE
  | [], m, rs, B, U, hst, hrl, hrs, hc, hL, hs => by
    have l1 : ([wA (2 + s)] : List Int).length ≤ 150 := by show 1 ≤ 150; decide
    have h0 : Hs room (6 * M + 1 + B + 8 + 1) (U + 3 + 4) m := hs.le (by rw [List.length_nil]; omega) (by rw [List.length_nil]; omega)
    -- the members
    have hmb : MbsS [laterD [slotD 0] (giveD (slotD 0)), laterD [] (conD 0 [])] ([wA (2 + s)] ++ lets m.cs.length 2) m.ser [.lat (giveD (slotD 0)) [wA (2 + s)] m.ser, .lat (conD 0 []) [] (m.ser + 1)] (m.ser + 1 + 1) :=
      .cons (.lat (.cons (sl0 _ _) .nil) (by show 1 ≤ 1000; decide)) (.cons (.lat .nil (by show 0 ≤ 1000; decide)) .nil)
    have h1 := h0.app (cl := [.lat (giveD (slotD 0)) [wA (2 + s)] m.ser, .lat (conD 0 []) [] (m.ser + 1)]) (s' := m.ser + 1 + 1) (by show 2 ≤ 10; decide) (by show (2 : Int) + (2 + 0) ≤ 4; decide)
    have hlt : ([wA (2 + s)] ++ lets m.cs.length 2) = [wA (2 + s), wA m.cs.length, wA (m.cs.length + 1)] := rfl
    have hlen : (m.cs ++ [Cl.lat (giveD (slotD 0)) [wA (2 + s)] m.ser, .lat (conD 0 []) [] (m.ser + 1)]).length = m.cs.length + 2 := by rw [List.length_append]; rfl
    have hg0 : (m.cs ++ [Cl.lat (giveD (slotD 0)) [wA (2 + s)] m.ser, .lat (conD 0 []) [] (m.ser + 1)])[m.cs.length]? = some (.lat (giveD (slotD 0)) [wA (2 + s)] m.ser) := by rw [List.getElem?_append_right (Nat.le_refl _), Nat.sub_self]; rfl
    have hc1 := hc.app [Cl.lat (giveD (slotD 0)) [wA (2 + s)] m.ser, .lat (conD 0 []) [] (m.ser + 1)]
    have up : ∀ a, a < m.cs.length → (m.cs ++ [Cl.lat (giveD (slotD 0)) [wA (2 + s)] m.ser, .lat (conD 0 []) [] (m.ser + 1)])[a]? = m.cs[a]? := fun a ha => List.getElem?_append_left ha
    obtain ⟨m1, em1⟩ : ∃ m1 : Mc, m1 = { m with cs := m.cs ++ [Cl.lat (giveD (slotD 0)) [wA (2 + s)] m.ser, .lat (conD 0 []) [] (m.ser + 1)], ser := m.ser + 1 + 1 } := ⟨_, rfl⟩
    have e1 : m1.cs = m.cs ++ [Cl.lat (giveD (slotD 0)) [wA (2 + s)] m.ser, .lat (conD 0 []) [] (m.ser + 1)] := by rw [em1]
    have e2 : m1.stk = m.stk := by rw [em1]
    have e3 : m1.evs = m.evs := by rw [em1]
    have e4 : m1.ent = m.ent := by rw [em1]
    rw [← em1] at h1
    rw [← e1] at hlen hg0 hc1 up
    -- the pair
    have h2 := h1.cell (c := .con 1 [wA m.cs.length, wA (m.cs.length + 1)]) (by show 3 ≤ 3; decide)
    have hb : (m1.cell (.con 1 [wA m.cs.length, wA (m.cs.length + 1)])).cs[m1.cs.length]? = some (.con 1 [wA m.cs.length, wA (m.cs.length + 1)]) := by
      show (m1.cs ++ [_])[m1.cs.length]? = _
      rw [List.getElem?_append_right (Nat.le_refl _), Nat.sub_self]
      rfl
    have up2 : ∀ a, a < m1.cs.length → (m1.cell (.con 1 [wA m.cs.length, wA (m.cs.length + 1)])).cs[a]? = m1.cs[a]? := fun a ha => List.getElem?_append_left ha
    have hl2 : (m1.cell (.con 1 [wA m.cs.length, wA (m.cs.length + 1)])).cs.length = m1.cs.length + 1 := by show (m1.cs ++ [_]).length = _; rw [List.length_append]; rfl
    obtain ⟨m3, k1, k2, k3, k4, _, k6, k7, k8, k9, k10⟩ := pops (main := main) hM (b := m1.cs.length) rs (m := m1.cell (.con 1 [wA m.cs.length, wA (m.cs.length + 1)])) (B := 6 * M + 1 + B + 5) (by show m1.stk = _; rw [e2]; exact hst) (fun a ha => by
      obtain ⟨q1, q2, d, q3, q4⟩ := hrs a ha
      exact ⟨q1, by omega, by omega, d, by rw [up2 a (by omega), up a q2]; exact q3, q4⟩) hb (hc1.app _) (h2.le (by omega) (Nat.le_refl _))
    have e5 : m3.evs = m.evs := k3.trans e3
    have e6 : m3.ent = m.ent := k4.trans e4
    have hg3 : m3.cs[m.cs.length]? = some (.lat (giveD (slotD 0)) [wA (2 + s)] m.ser) := by
      rw [k7 _ (fun z => by have := (hrs _ z).2.1; omega), up2 _ (by omega)]
      exact hg0
    have hst3 : m3.stk = [] ++ [.show] := k1
    have h4 := k9.swap hst3 (g := .head (wA (m.cs.length + 1))) (by show 1 ≤ 150; decide)
    have h5 := (h4.le (B' := 6 * M + 1 + B + 1 + 1) (by omega) (Nat.le_refl _)).enter (a := m.cs.length) hg3
    have hc5 : Circ M s ts 0 (m3.cs.set m.cs.length .hole) := k8.set hM _ (.inr hL)
    obtain ⟨mE, g1, g2, g3⟩ := chain (main := main) hM M 0 (by omega) (m := { m3 with stk := ([] ++ [.head (wA (m.cs.length + 1))]) ++ [.upd (m.cs.length : Int)], cs := m3.cs.set m.cs.length .hole, ent := m3.ent ++ [m.ser] }) (B := B) hc5 (h5.le (by omega) (Nat.le_refl _))
    rw [idx_zero hM] at g3
    refine ⟨mE, by rw [g1, List.map_nil, List.append_nil]; exact e5, ?_, ?_⟩
    · rw [g2]
      show (m3.ent ++ [m.ser]).length + M = _
      rw [List.length_append, e6]
      show m.ent.length + 1 + M = m.ent.length + 0 + 1 + M
      omega
    · refine RunW.more (k := 6 * M + 1 + 1 + 1 + 1 + rs.length + 1 + 1) ?_ (by rw [List.length_nil]; omega)
      refine RunW.lt hmb (by show 2 ≤ 10; decide) l1 h0 (by show (2 : Int) + (2 + 0) ≤ 4; decide) ?_
      show RunW _ room _ (.eval _ [wA (2 + s), wA m.cs.length, wA (m.cs.length + 1)]) _ .loop mE
      rw [← em1]
      refine RunW.con (vs := [wA m.cs.length, wA (m.cs.length + 1)]) (.cons (op_slot (i := 1) rfl) (.cons (op_slot (i := 2) rfl) .nil)) (by show 2 ≤ 1000; decide) (by show 3 ≤ 150; decide) h1 (by show 3 ≤ 3; decide) ?_
      refine k10 ?_
      refine RunW.cons hst3 (.even k6) k9 ?_
      refine RunW.lat (m := { m3 with stk := [] ++ [.head (wA (m.cs.length + 1))] }) hg3 h4 ?_
      exact RunW.give (sl0 _ _) l1 h5 g3
  | n :: ns, m, rs, B, U, hst, hrl, hrs, hc, hL, hs => by
    have l1 : ([wA (2 + s)] : List Int).length ≤ 150 := by show 1 ≤ 150; decide
    have h0 : Hs room (9 * ns.length + 9 + (6 * M + 1) + B + 8 + 1) (5 * ns.length + 7 + U + 3 + 2) m := hs.le (by rw [List.length_cons]; omega) (by rw [List.length_cons]; omega)
    have hmb : MbsS [laterD [slotD 0] (bodyB ns)] ([wA (2 + s)] ++ lets m.cs.length 1) m.ser [.lat (bodyB ns) [wA (2 + s)] m.ser] (m.ser + 1) :=
      .cons (.lat (.cons (sl0 _ _) .nil) (by show 1 ≤ 1000; decide)) .nil
    have h1 := h0.app (cl := [.lat (bodyB ns) [wA (2 + s)] m.ser]) (s' := m.ser + 1) (by show 1 ≤ 10; decide) (by show (2 : Int) + 0 ≤ 2; decide)
    have hlt : ([wA (2 + s)] ++ lets m.cs.length 1) = [wA (2 + s), wA m.cs.length] := rfl
    have hlen : (m.cs ++ [Cl.lat (bodyB ns) [wA (2 + s)] m.ser]).length = m.cs.length + 1 := by rw [List.length_append]; rfl
    have hg0 : (m.cs ++ [Cl.lat (bodyB ns) [wA (2 + s)] m.ser])[m.cs.length]? = some (.lat (bodyB ns) [wA (2 + s)] m.ser) := by rw [List.getElem?_append_right (Nat.le_refl _), Nat.sub_self]; rfl
    have hc1 := hc.app [Cl.lat (bodyB ns) [wA (2 + s)] m.ser]
    have up : ∀ a, a < m.cs.length → (m.cs ++ [Cl.lat (bodyB ns) [wA (2 + s)] m.ser])[a]? = m.cs[a]? := fun a ha => List.getElem?_append_left ha
    obtain ⟨m1, em1⟩ : ∃ m1 : Mc, m1 = { m with cs := m.cs ++ [Cl.lat (bodyB ns) [wA (2 + s)] m.ser], ser := m.ser + 1 } := ⟨_, rfl⟩
    have e1 : m1.cs = m.cs ++ [Cl.lat (bodyB ns) [wA (2 + s)] m.ser] := by rw [em1]
    have e2 : m1.stk = m.stk := by rw [em1]
    have e3 : m1.evs = m.evs := by rw [em1]
    have e4 : m1.ent = m.ent := by rw [em1]
    rw [← em1] at h1
    rw [← e1] at hlen hg0 hc1 up
    have h2 := h1.cell (c := .con 1 [2 * n + 1, wA m.cs.length]) (by show 3 ≤ 3; decide)
    have hb : (m1.cell (.con 1 [2 * n + 1, wA m.cs.length])).cs[m1.cs.length]? = some (.con 1 [2 * n + 1, wA m.cs.length]) := by
      show (m1.cs ++ [_])[m1.cs.length]? = _
      rw [List.getElem?_append_right (Nat.le_refl _), Nat.sub_self]
      rfl
    have up2 : ∀ a, a < m1.cs.length → (m1.cell (.con 1 [2 * n + 1, wA m.cs.length])).cs[a]? = m1.cs[a]? := fun a ha => List.getElem?_append_left ha
    have hl2 : (m1.cell (.con 1 [2 * n + 1, wA m.cs.length])).cs.length = m1.cs.length + 1 := by show (m1.cs ++ [_]).length = _; rw [List.length_append]; rfl
    obtain ⟨m3, k1, k2, k3, k4, _, k6, k7, k8, k9, k10⟩ := pops (main := main) hM (b := m1.cs.length) rs (m := m1.cell (.con 1 [2 * n + 1, wA m.cs.length])) (B := 9 * ns.length + 9 + (6 * M + 1) + B + 5) (by show m1.stk = _; rw [e2]; exact hst) (fun a ha => by
      obtain ⟨q1, q2, d, q3, q4⟩ := hrs a ha
      exact ⟨q1, by omega, by omega, d, by rw [up2 a (by omega), up a q2]; exact q3, q4⟩) hb (hc1.app _) (h2.le (by omega) (Nat.le_refl _))
    have e5 : m3.evs = m.evs := k3.trans e3
    have e6 : m3.ent = m.ent := k4.trans e4
    have hg3 : m3.cs[m.cs.length]? = some (.lat (bodyB ns) [wA (2 + s)] m.ser) := by
      rw [k7 _ (fun z => by have := (hrs _ z).2.1; omega), up2 _ (by omega)]
      exact hg0
    have hst3 : m3.stk = [] ++ [.show] := k1
    have h4 := k9.swap hst3 (g := .head (wA m.cs.length)) (by show 1 ≤ 150; decide)
    have h4' : Hs room (9 * ns.length + 9 + (6 * M + 1) + B + 3) (5 * ns.length + 7 + U) { m3 with stk := ([] : List Fm) } := (h4.pop (stk := []) rfl).le (by omega) (Nat.le_refl _)
    have h6 : Hs room (9 * ns.length + 9 + (6 * M + 1) + B + 1) (5 * ns.length + 7 + U) { m3 with evs := m3.evs ++ [.shw n], stk := [] ++ [.show] } := (h4'.ev (.shw n)).push (f := .show) (by show 0 ≤ 150; decide)
    have h7 := h6.enter (a := m.cs.length) hg3
    have hal : m.cs.length < m3.cs.length := (List.getElem?_eq_some_iff.mp hg3).1
    obtain ⟨mE, g1, g2, g3⟩ := body_run hM ns (m := { m3 with evs := m3.evs ++ [.shw n], stk := ([] ++ [.show]) ++ [.upd (m.cs.length : Int)], cs := m3.cs.set m.cs.length .hole, ent := m3.ent ++ [m.ser] }) (rs := [m.cs.length]) (B := B) (U := U) rfl (by show 1 ≤ 2; decide) (fun a ha => by
      rw [List.mem_singleton.mp ha]
      exact ⟨.inr hL, by show _ < (m3.cs.set _ _).length; rw [List.length_set]; exact hal, .hole, List.getElem?_set_self hal, Nat.le_refl 2⟩) (k8.set hM _ (.inr hL)) (by show _ ≤ (m3.cs.set _ _).length; rw [List.length_set]; omega) h7
    refine ⟨mE, ?_, ?_, ?_⟩
    · rw [g1, List.map_cons]
      show (m3.evs ++ [.shw n]) ++ ns.map Ev.shw = m.evs ++ (.shw n :: ns.map Ev.shw)
      rw [e5, List.append_assoc]
      rfl
    · rw [g2]
      show (m3.ent ++ [m.ser]).length + ns.length + 1 + M = m.ent.length + (ns.length + 1) + 1 + M
      rw [List.length_append, e6]
      show m.ent.length + 1 + ns.length + 1 + M = m.ent.length + (ns.length + 1) + 1 + M
      omega
    · refine RunW.more (k := 9 * ns.length + 9 + (6 * M + 1) + 1 + 1 + 1 + 1 + rs.length + 1 + 1) ?_ (by rw [List.length_cons]; omega)
      refine RunW.lt hmb (by show 1 ≤ 10; decide) l1 h0 (by show (2 : Int) + 0 ≤ 2; decide) ?_
      show RunW _ room _ (.eval _ [wA (2 + s), wA m.cs.length]) _ .loop mE
      rw [← em1]
      refine RunW.con (vs := [2 * n + 1, wA m.cs.length]) (.cons (op_num n _) (.cons (op_slot (i := 1) rfl) .nil)) (by show 2 ≤ 1000; decide) (by show 2 ≤ 150; decide) h1 (by show 3 ≤ 3; decide) ?_
      refine k10 ?_
      refine RunW.cons hst3 (.even k6) k9 ?_
      refine RunW.num h4 ?_
      refine RunW.head (m := { m3 with stk := [] ++ [.head (wA m.cs.length)] }) (stk := []) rfl h4 ?_
      exact RunW.lat (m := { m3 with evs := m3.evs ++ [.shw n], stk := [] ++ [.show] }) hg3 h6 g3
end
end Toy

set_option Elab.async false
set_option linter.all false
set_option maxRecDepth 100000
set_option maxHeartbeats 4000000
/-! Part H: how the run begins. -/
namespace Toy
open PySem L2
theorem lets_len (l k : Nat) : (lets l k).length = k := by unfold lets; rw [List.length_map, List.length_range]
theorem lets_get {l k i : Nat} (h : i < k) : (lets l k)[i]? = some (wA (l + i)) := by
  unfold lets
  rw [List.getElem?_map, List.getElem?_range h]
  rfl
/-- delayed members that each use one word -/
theorem lats_mbs (ws : List Int) : ∀ (rows : List (Nat × Dd)) (s : Int), (∀ q ∈ rows, q.1 < ws.length) → ∃ cl s', MbsS (rows.map fun q => laterD [slotD (q.1 : Int)] q.2) ws s cl s' ∧ cl.length = rows.length ∧ used cl ≤ 2 * (rows.length : Int) ∧ ∀ (j : Nat) (q : Nat × Dd), rows[j]? = some q → ∃ w sr, ws[q.1]? = some w ∧ cl[j]? = some (.lat q.2 [w] sr)
  | [], s, _ => ⟨[], s, .nil, rfl, Int.le_refl _, fun j q h => by simp at h⟩
  | q :: rows, s, h => by
    obtain ⟨w, hw⟩ : ∃ w, ws[q.1]? = some w := ⟨_, List.getElem?_eq_getElem (h q (List.mem_cons_self ..))⟩
    obtain ⟨cl, s', h1, h2, h3, h4⟩ := lats_mbs ws rows (s + 1) fun p hp => h p (List.mem_cons_of_mem _ hp)
    refine ⟨.lat q.2 [w] s :: cl, s', .cons (.lat (.cons (op_slot hw) .nil) (by show 1 ≤ 1000; decide)) h1, by rw [List.length_cons, List.length_cons, h2], ?_, fun j p hp => ?_⟩
    · show (2 : Int) + used cl ≤ 2 * ((rows.length + 1 : Nat) : Int)
      omega
    · cases j with
      | zero => cases hp; exact ⟨w, s, hw, rfl⟩
      | succ j => exact h4 j p hp
def rowsM (M : Nat) (ts : Nat → Nat) : List (Nat × Dd) := (List.range M).map (fun j => ((j + 1) % M, needsB (ts j))) ++ [(M, giveD (slotD 0))]
def mainB (M s : Nat) (ts : Nat → Nat) (ns : List Int) : Dd := letD ((rowsM M ts).map fun q => laterD [slotD (q.1 : Int)] q.2) (letD [laterD [slotD (s : Int)] (bodyB ns)] (giveD (slotD ((M + 1 : Nat) : Int))))
theorem rowsM_len (M : Nat) (ts : Nat → Nat) : (rowsM M ts).length = M + 1 := by unfold rowsM; rw [List.length_append, List.length_map, List.length_range]; rfl
theorem k70_run {M s : Nat} {ts : Nat → Nat} {ns : List Int} (hM : s < M) (hM5 : M ≤ 5) (hn5 : ns.length ≤ 5) : ∃ mE, mE.evs = ns.map Ev.shw ∧ mE.ent.length = 2 + ns.length + 1 + M ∧ RunW [(0, mainB M s ts ns), (2, firstB)] 10000 1000 (.enter (2 * ((0 : Nat) : Int))) (startM [(0, mainB M s ts ns), (2, firstB)]) .loop mE := by
  have hrl := rowsM_len M ts
  obtain ⟨m0, em0⟩ : ∃ m0 : Mc, m0 = startM [(0, mainB M s ts ns), (2, firstB)] := ⟨_, rfl⟩
  have c0 : m0.cs = [.lat (mainB M s ts ns) [] 0, .part 1 []] := by rw [em0]; rfl
  have h0 : Hs 10000 (9 * ns.length + 9 + (6 * M + 1) + 0 + 4 + 1) (5 * ns.length + 7 + 0 + 2 + 2 * (M + 1)) m0 := by
    rw [em0]
    refine ⟨?_, ?_, ?_, ?_, ?_, by decide, fun f hf => ?_⟩
    · show 2 + _ ≤ 90000; omega
    · show 1 + _ ≤ 90000; omega
    · show 0 + _ ≤ 90000; omega
    · show 0 + _ ≤ 90000; omega
    · show (2 : Int) + (1 + 0) + _ ≤ _; omega
    · rw [List.mem_singleton.mp (show f ∈ [Fm.show] from hf)]; show 0 ≤ 150; decide
  rw [← em0]
  have g0 : m0.cs[0]? = some (.lat (mainB M s ts ns) [] 0) := by rw [c0]; rfl
  have h1 := h0.enter g0
  obtain ⟨m1, em1⟩ : ∃ m1 : Mc, m1 = { m0 with cs := m0.cs.set 0 .hole, ent := m0.ent ++ [0], stk := m0.stk ++ [.upd ((0 : Nat) : Int)] } := ⟨_, rfl⟩
  rw [← em1] at h1
  have c1 : m1.cs = [.hole, .part 1 []] := by rw [em1]; show m0.cs.set 0 .hole = _; rw [c0]; rfl
  have s1 : m1.stk = [.show, .upd ((0 : Nat) : Int)] := by rw [em1, em0]; rfl
  have e1 : m1.evs = [] := by rw [em1, em0]; rfl
  have t1 : m1.ent = [0] := by rw [em1, em0]; rfl
  have l1 : m1.cs.length = 2 := by rw [c1]; rfl
  -- the members
  obtain ⟨cl, s', hmb, hcl, hus, hget⟩ := lats_mbs ([] ++ lets m1.cs.length (M + 1)) (rowsM M ts) m1.ser (fun q hq => by
    rw [List.nil_append, lets_len]
    rcases List.mem_append.mp hq with h | h
    · obtain ⟨j, hj, rfl⟩ := List.mem_map.mp h
      have := Nat.mod_lt (j + 1) (show 0 < M by omega)
      show (j + 1) % M < M + 1
      omega
    · rw [List.mem_singleton.mp h]
      exact Nat.lt_succ_self M)
  rw [hrl] at hcl hus
  have h2 := h1.app (C := 2 * (M + 1)) (cl := cl) (s' := s') (by omega) (by omega)
  obtain ⟨m2, em2⟩ : ∃ m2 : Mc, m2 = { m1 with cs := m1.cs ++ cl, ser := s' } := ⟨_, rfl⟩
  rw [← em2] at h2
  have c2 : m2.cs = m1.cs ++ cl := by rw [em2]
  have l2 : m2.cs.length = 2 + (M + 1) := by rw [c2, List.length_append, l1, hcl]
  have circ : Circ M s ts 0 m2.cs := by
    refine ⟨by rw [c2, c1]; rfl, fun j _ hj => ?_, fun j hj => absurd hj (Nat.not_lt_zero _)⟩
    have hi := idx_lt hM (Nat.le_of_lt hj)
    obtain ⟨w, sr, h3, h4⟩ := hget (idx M s j) ((idx M s j + 1) % M, needsB (ts (idx M s j))) (by
      unfold rowsM
      rw [List.getElem?_append_left (by rw [List.length_map, List.length_range]; exact hi), List.getElem?_map, List.getElem?_range hi]
      rfl)
    have h3 : ([] ++ lets m1.cs.length (M + 1))[(idx M s j + 1) % M]? = some w := h3
    have hlt := idx_lt (i := j + 1) hM (by omega)
    rw [idx_next hM hj, List.nil_append, lets_get (by omega), l1] at h3
    cases h3
    refine ⟨sr, ?_⟩
    rw [c2, List.getElem?_append_right (by omega), l1, Nat.add_sub_cancel_left]
    exact h4
  -- the body
  have hsl : (([] ++ lets m1.cs.length (M + 1)) ++ lets m2.cs.length 1)[s]? = some (wA (2 + s)) := by
    rw [List.nil_append, List.getElem?_append_left (by rw [lets_len]; omega), lets_get (by omega), l1]
  have hmb2 : MbsS [laterD [slotD (s : Int)] (bodyB ns)] (([] ++ lets m1.cs.length (M + 1)) ++ lets m2.cs.length 1) m2.ser [.lat (bodyB ns) [wA (2 + s)] m2.ser] (m2.ser + 1) :=
    .cons (.lat (.cons (op_slot hsl) .nil) (by show 1 ≤ 1000; decide)) .nil
  have h3 := h2.app (C := 2) (cl := [.lat (bodyB ns) [wA (2 + s)] m2.ser]) (s' := m2.ser + 1) (by show 1 ≤ 10; decide) (by show (2 : Int) + 0 ≤ 2; decide)
  obtain ⟨m3, em3⟩ : ∃ m3 : Mc, m3 = { m2 with cs := m2.cs ++ [Cl.lat (bodyB ns) [wA (2 + s)] m2.ser], ser := m2.ser + 1 } := ⟨_, rfl⟩
  rw [← em3] at h3
  have c3 : m3.cs = m2.cs ++ [Cl.lat (bodyB ns) [wA (2 + s)] m2.ser] := by rw [em3]
  have l3 : m3.cs.length = m2.cs.length + 1 := by rw [c3, List.length_append]; rfl
  have g3 : m3.cs[m2.cs.length]? = some (.lat (bodyB ns) [wA (2 + s)] m2.ser) := by rw [c3, List.getElem?_append_right (Nat.le_refl _), Nat.sub_self]; rfl
  have circ3 : Circ M s ts 0 m3.cs := by rw [c3]; exact circ.app _
  have h4 := h3.enter g3
  have s3 : m3.stk = [.show, .upd ((0 : Nat) : Int)] := by rw [em3]; show m2.stk = _; rw [em2]; exact s1
  have e3 : m3.evs = [] := by rw [em3]; show m2.evs = _; rw [em2]; exact e1
  have t3 : m3.ent = [0] := by rw [em3]; show m2.ent = _; rw [em2]; exact t1
  obtain ⟨mE, k1, k2, k3⟩ := body_run (main := mainB M s ts ns) hM ns (m := { m3 with cs := m3.cs.set m2.cs.length .hole, ent := m3.ent ++ [m2.ser], stk := m3.stk ++ [.upd (m2.cs.length : Int)] }) (rs := [m2.cs.length, 0]) (B := 0) (U := 0) (by show m3.stk ++ _ = _; rw [s3]; rfl) (by show 2 ≤ 2; decide) (fun a ha => by
      have hal : m2.cs.length < m3.cs.length := by omega
      rcases List.mem_cons.mp ha with e | e
      · subst e
        exact ⟨.inr (by omega), by show _ < (m3.cs.set _ _).length; rw [List.length_set]; exact hal, .hole, List.getElem?_set_self hal, Nat.le_refl 2⟩
      · rw [List.mem_singleton.mp e]
        refine ⟨.inl rfl, by show 0 < (m3.cs.set _ _).length; rw [List.length_set]; omega, .hole, ?_, Nat.le_refl 2⟩
        show (m3.cs.set m2.cs.length Cl.hole)[0]? = _
        rw [List.getElem?_set_ne (by omega), c3, List.getElem?_append_left (by omega), c2, c1]
        rfl) (circ3.set hM _ (.inr (by omega))) (by show _ ≤ (m3.cs.set _ _).length; rw [List.length_set]; omega) (h4.le (by omega) (Nat.le_refl _))
  refine ⟨mE, ?_, ?_, ?_⟩
  · rw [k1]
    show m3.evs ++ _ = _
    rw [e3, List.nil_append]
  · rw [k2]
    show (m3.ent ++ [m2.ser]).length + ns.length + 1 + M = _
    rw [t3]
    show 2 + ns.length + 1 + M = _
    rfl
  · refine RunW.more (k := 9 * ns.length + 9 + (6 * M + 1) + 1 + 1 + 1 + 1 + 1) ?_ (by omega)
    refine RunW.lat g0 h0 ?_
    rw [← em1]
    refine RunW.lt (cl := cl) (s' := s') (C := 2 * (M + 1)) (by rw [List.length_map, hrl]; exact hmb) (by rw [List.length_map, hrl]; omega) (by show 0 ≤ 150; decide) h1 (by omega) ?_
    rw [← em2, List.length_map, hrl]
    refine RunW.lt hmb2 (by show 1 ≤ 10; decide) (by rw [List.nil_append, lets_len]; omega) h2 (by show (2 : Int) + 0 ≤ 2; decide) ?_
    rw [← em3]
    refine RunW.give (w := wA m2.cs.length) (op_slot (i := M + 1) ?_) (by show (([] ++ lets m1.cs.length (M + 1)) ++ lets m2.cs.length 1).length ≤ 150; rw [List.nil_append, List.length_append, lets_len, lets_len]; omega) h3 ?_
    · show (([] ++ lets m1.cs.length (M + 1)) ++ lets m2.cs.length 1)[M + 1]? = _
      rw [List.nil_append, List.getElem?_append_right (by rw [lets_len]; exact Nat.le_refl _), lets_len, Nat.sub_self]
      rfl
    · exact RunW.lat g3 h3 k3
end Toy

set_option Elab.async false
set_option linter.all false
set_option maxRecDepth 100000
set_option maxHeartbeats 4000000
/-! Part I: data of the mirror; tuples written as they stand. -/
namespace Toy
open PySem L2
open PyProof.Rows (envOfC)
mutual
def Dd.D : Dd → PyData
  | .non => .none
  | .bl b => .bool b
  | .int i => .int i
  | .str s => .str s
  | .tup l => .tuple (Dd.Ds l)
  | .lst l => .list (Dd.Ds l)
def Dd.Ds : List Dd → List PyData
  | [] => []
  | k :: l => k.D :: Dd.Ds l
end
mutual
theorem Dd.At.dp {K : PySem.W.Frag} {H : Hp} : ∀ {k : Dd} {v : V}, k.At F0 H v → Dp K H v k.D
  | .non, _, h => by cases (show _ = V.non from h); exact .non
  | .bl b, _, h => by cases (show _ = V.bl b from h); exact .bl b
  | .int i, _, h => by cases (show _ = V.int i from h); exact .int i
  | .str s, _, h => by obtain ⟨e, _⟩ := (show _ = V.str s ∧ _ from h); cases e; exact .str s
  | .tup l, _, ⟨a, xs, e, h, hs⟩ => by cases e; exact .tup (SqT.of h) (Dd.Ats.dp hs)
  | .lst l, _, ⟨a, xs, e, h, _⟩ => h.elim
theorem Dd.Ats.dp {K : PySem.W.Frag} {H : Hp} : ∀ {l : List Dd} {xs : List V}, Dd.Ats F0 H l xs → DpAll K H xs (Dd.Ds l)
  | [], _, h => by cases h; exact .nil
  | k :: l, _, ⟨x, ys, e, h, hs⟩ => by cases e; exact .cons (Dd.At.dp h) (Dd.Ats.dp hs)
end
mutual
def Dd.lay : Dd → Bool
  | .str s => PyData.strOk s
  | .tup l => Dd.lays l
  | .lst l => Dd.lays l
  | _ => true
def Dd.lays : List Dd → Bool
  | [] => true
  | k :: l => k.lay && Dd.lays l
end
mutual
def Dd.dep : Dd → Nat
  | .tup l => 1 + Dd.deps l
  | .lst l => 1 + Dd.deps l
  | _ => 0
def Dd.deps : List Dd → Nat
  | [] => 0
  | k :: l => max k.dep (Dd.deps l)
end
mutual
theorem Dd.canLay : ∀ k : Dd, k.lay = true → k.D.canLay0 = true
  | .non, _ => by simp [Dd.D, PyData.canLay0]
  | .bl _, _ => by simp [Dd.D, PyData.canLay0]
  | .int i, _ => by simp [Dd.D, PyData.canLay0]
  | .str s, h => by
    have h : PyData.strOk s = true := h
    simp [Dd.D, PyData.canLay0, h]
  | .tup l, h => by
    have h : Dd.lays l = true := h
    simp [Dd.D, PyData.canLay0, Dd.canLays l h]
  | .lst l, h => by
    have h : Dd.lays l = true := h
    simp [Dd.D, PyData.canLay0, Dd.canLays l h]
theorem Dd.canLays : ∀ l : List Dd, Dd.lays l = true → PyData.canLayAll0 (Dd.Ds l) = true
  | [], _ => by simp [Dd.Ds, PyData.canLayAll0]
  | k :: l, h => by
    have h : (k.lay && Dd.lays l) = true := h
    rw [Bool.and_eq_true] at h
    simp [Dd.Ds, PyData.canLayAll0, Dd.canLay k h.1, Dd.canLays l h.2]
end
mutual
theorem Dd.depth_le : ∀ k : Dd, k.D.depth ≤ k.dep
  | .non => by simp [Dd.D, PyData.depth, Dd.dep]
  | .bl _ => by simp [Dd.D, PyData.depth, Dd.dep]
  | .int i => by simp [Dd.D, PyData.depth, Dd.dep]
  | .str s => by simp [Dd.D, PyData.depth, Dd.dep]
  | .tup l => by
    have h := Dd.depths_le l
    simp [Dd.D, PyData.depth, Dd.dep]
    omega
  | .lst l => by
    have h := Dd.depths_le l
    simp [Dd.D, PyData.depth, Dd.dep]
    omega
theorem Dd.depths_le : ∀ l : List Dd, PyData.depthAll (Dd.Ds l) ≤ Dd.deps l
  | [] => by simp [Dd.Ds, PyData.depthAll, Dd.deps]
  | k :: l => by
    have h1 := Dd.depth_le k
    have h2 := Dd.depths_le l
    simp [Dd.Ds, PyData.depthAll, Dd.deps]
    omega
end
theorem Dd.shaped {k : Dd} (h : k.lay = true) (d : k.dep ≤ 60) : SeqAt.shaped k.D = true := by
  have h1 := Dd.depth_le k
  show (PyData.canLay0 k.D && decide (PyData.depth k.D ≤ 64)) = true
  rw [Bool.and_eq_true]
  exact ⟨Dd.canLay k h, decide_eq_true (by omega)⟩
theorem eqv_self {d : PyData} (h : SeqAt.shaped d = true) : PyData.eqv d d = true := SeqAt.eqv_refl d (SeqAt.canLay_of_shaped h)
theorem band {a b : Bool} (h : a = true) (k : b = true) : (a && b) = true := by rw [h, k]; rfl
theorem lays_of : ∀ {l : List Dd}, (∀ k ∈ l, k.lay = true) → Dd.lays l = true
  | [], _ => rfl
  | k :: l, h => band (h k (List.mem_cons_self ..)) (lays_of fun q hq => h q (List.mem_cons_of_mem _ hq))
theorem deps_of {n : Nat} : ∀ {l : List Dd}, (∀ k ∈ l, k.dep ≤ n) → Dd.deps l ≤ n
  | [], _ => Nat.zero_le _
  | k :: l, h => Nat.max_le.mpr ⟨h k (List.mem_cons_self ..), deps_of fun q hq => h q (List.mem_cons_of_mem _ hq)⟩
/-- such data can be compared -/
structure Cmp (n : Nat) (k : Dd) : Prop where
  lay : k.lay = true
  dep : k.dep ≤ n
theorem Cmp.mono {n m : Nat} {k : Dd} (h : Cmp n k) (hm : n ≤ m) : Cmp m k := ⟨h.lay, Nat.le_trans h.dep hm⟩
theorem cmp_tup {n : Nat} {l : List Dd} (h : ∀ k ∈ l, Cmp n k) : Cmp (n + 1) (.tup l) := ⟨lays_of fun k hk => (h k hk).lay, by
  have := deps_of fun k hk => (h k hk).dep
  show 1 + Dd.deps l ≤ n + 1
  omega⟩
theorem cmp_str {n : Nat} {s : Str} (h : PyData.strOk s = true) : Cmp n (.str s) := ⟨h, Nat.zero_le _⟩
theorem cmp_int {n : Nat} {i : Int} : Cmp n (.int i) := ⟨rfl, Nat.zero_le _⟩
theorem cmp_non {n : Nat} : Cmp n .non := ⟨rfl, Nat.zero_le _⟩
theorem cmp_cons {n : Nat} {k : Dd} {l : List Dd} (h : Cmp n k) (hs : ∀ q ∈ l, Cmp n q) : ∀ q ∈ k :: l, Cmp n q := fun q hq => by
  rcases List.mem_cons.mp hq with e | e
  · rw [e]; exact h
  · exact hs q e
theorem cmp_nil {n : Nat} : ∀ q ∈ ([] : List Dd), Cmp n q := fun q h => absurd h List.not_mem_nil
/-! ### tuples written as they stand -/
def Lit (σ : St) (H : Hp) (te : TE) (d : Dd) : Prop := ∀ (H1 : Hp), Same H H1 → ∀ Q : VK, (∀ v H', Same H1 H' → d.At F0 H' v → Q v H') → te σ H1 Q
def LitA (σ : St) (H : Hp) (ta : TA) (ds : List Dd) : Prop := ∀ (H1 : Hp), Same H H1 → ∀ Q : List V → Hp → Prop, (∀ vs H', Same H1 H' → Dd.Ats F0 H' ds vs → Q vs H') → ta σ H1 Q
section
variable {σ : St} {H : Hp} {te : TE} {ta : TA} {d : Dd} {ds : List Dd}
theorem Lit.go {Q : VK} (h : Lit σ H te d) (k : ∀ v H', Same H H' → d.At F0 H' v → Q v H') : te σ H Q := h H same_id Q k
theorem lit_str {s : Str} (h : s.length ≤ 1000) : Lit σ H (tC (.str s)) (.str s) := fun H1 _ Q q => q _ _ same_id (at_str' h)
theorem lit_int {i : Int} : Lit σ H (tC (.int i)) (.int i) := fun H1 _ Q q => q _ _ same_id at_int'
theorem lit_non : Lit σ H (tC .non) .non := fun H1 _ Q q => q _ _ same_id rfl
theorem lit_var {i : Nat} {v : V} (e : σ[i]? = some (some v)) (h : d.At F0 H v) : Lit σ H (tVar i) d := fun H1 s Q q => ⟨v, e, q _ _ same_id (h.keep (fr_same s))⟩
theorem lit_nil : LitA σ H tNil [] := fun H1 _ Q q => q _ _ same_id rfl
theorem lit_cons (h : Lit σ H te d) (k : LitA σ H ta ds) : LitA σ H (tCons te ta) (d :: ds) := fun H1 s Q q => h H1 s _ fun v H2 s2 hv => k H2 (sameT s s2) _ fun vs H3 s3 hvs => q _ _ (sameT s2 s3) (ats_cons (hv.keep (fr_same s3)) hvs)
theorem lit_tup (h : LitA σ H ta ds) (l : ds.length.ble 100 = true) : Lit σ H (tTup ta) (.tup ds) := fun H1 s Q q => h H1 s _ fun vs H2 s2 hvs => by
  have hl := ats_len hvs
  have h1 := Nat.le_of_ble_eq_true l
  refine ⟨by have := szl (n := 100) (by decide); omega, fun t ht => ?_⟩
  have s3 := same_new ht (.tup vs)
  exact q _ _ (sameT s2 s3) (at_tup upd_same (hvs.keep (fr_same s3)))
end
end Toy

set_option Elab.async false
set_option linter.all false
set_option maxRecDepth 100000
set_option maxHeartbeats 4000000
/-! Part J: what a number needs is drawn; the code has no other global addresses. -/
namespace Toy
open PySem L2
open PyProof.Rows (envOfC)
/-! ### global addresses -/
theorem gl_w {gc : Nat} {z : Str} {r : List Dd} (h : z ≠ "global") (hr : GlDs gc r) : GlD gc (.tup (.str z :: r)) := ⟨fun i e => by cases e; exact absurd rfl h, trivial, hr⟩
theorem gl_l {gc : Nat} {l : List Dd} (h : GlDs gc l) (n : ∀ s r, l ≠ .str s :: r) : GlD gc (.tup l) := ⟨fun i e => absurd e (n _ _), h⟩
theorem glDs_of {gc : Nat} : ∀ {l : List Dd}, (∀ d ∈ l, GlD gc d) → GlDs gc l
  | [], _ => trivial
  | d :: l, h => ⟨h d (List.mem_cons_self ..), glDs_of fun x hx => h x (List.mem_cons_of_mem _ hx)⟩
theorem glDs_app {gc : Nat} {l k : List Dd} (h : GlDs gc l) (g : GlDs gc k) : GlDs gc (l ++ k) := glDs_of fun d hd => (List.mem_append.mp hd).elim h.mem g.mem
theorem gl_slot {gc : Nat} (i : Int) : GlD gc (slotD i) := gl_w (by decide +kernel) ⟨trivial, trivial⟩
theorem gl_num {gc : Nat} (i : Int) : GlD gc (numD i) := gl_w (by decide +kernel) ⟨trivial, trivial⟩
theorem gl_give {gc : Nat} {o : Dd} (h : GlD gc o) : GlD gc (giveD o) := gl_w (by decide +kernel) ⟨h, trivial⟩
theorem gl_later {gc : Nat} {os : List Dd} {b : Dd} (h : GlD gc (.tup os)) (g : GlD gc b) : GlD gc (laterD os b) := gl_w (by decide +kernel) ⟨h, g, trivial⟩
theorem gl_let {gc : Nat} {ms : List Dd} {b : Dd} (h : GlD gc (.tup ms)) (g : GlD gc b) : GlD gc (letD ms b) := gl_w (by decide +kernel) ⟨h, g, trivial⟩
theorem gl_con {gc : Nat} {t : Int} {os : List Dd} (h : GlD gc (.tup os)) : GlD gc (conD t os) := gl_w (by decide +kernel) ⟨trivial, h, trivial⟩
theorem gl_prim {gc : Nat} {s : Str} {a b : Dd} (h : GlD gc a) (g : GlD gc b) : GlD gc (primD s a b) := gl_w (by decide +kernel) ⟨trivial, h, g, trivial⟩
theorem gl_nil {gc : Nat} : GlD gc (.tup []) := gl_l trivial fun s r e => by cases e
theorem gl_one {gc : Nat} {l : List Dd} (h : GlD gc (.tup l)) : GlD gc (.tup [.tup l]) := gl_l ⟨h, trivial⟩ fun s r e => by cases e
theorem gl_two {gc : Nat} {l : List Dd} {b : Dd} (h : GlD gc (.tup l)) (g : GlD gc b) : GlD gc (.tup [.tup l, b]) := gl_l ⟨h, g, trivial⟩ fun s r e => by cases e
theorem gl_needs (t : Nat) : GlD 2 (needsB t) := by
  match t with
  | 0 => exact gl_give (gl_slot 0)
  | 1 => exact gl_prim (gl_num 1) (gl_slot 0)
  | 2 => exact gl_prim (gl_slot 0) (gl_num 0)
  | 3 => exact gl_w (by decide +kernel) ⟨gl_give (gl_slot 0), gl_one (gl_l ⟨trivial, gl_give (gl_num 4), trivial⟩ fun s r e => by cases e), trivial, trivial⟩
  | 4 => exact gl_w (by decide +kernel) ⟨⟨fun i e => by cases e; decide, trivial, trivial, trivial⟩, gl_two (gl_slot 0) (gl_num 3), trivial⟩
  | t + 5 => exact gl_w (by decide +kernel) ⟨gl_give (gl_slot 0), gl_give (gl_num 5), trivial⟩
theorem gl_body : ∀ ns : List Int, GlD 2 (bodyB ns)
  | [] => gl_let (gl_two (gl_later (gl_one (gl_slot 0)) (gl_give (gl_slot 0))) (gl_later gl_nil (gl_con gl_nil))) (gl_con (gl_two (gl_slot 1) (gl_slot 2)))
  | n :: ns => gl_let (gl_one (gl_later (gl_one (gl_slot 0)) (gl_body ns))) (gl_con (gl_two (gl_num n) (gl_slot 1)))
theorem gl_main (M s : Nat) (ts : Nat → Nat) (ns : List Int) : GlD 2 (mainB M s ts ns) := by
  refine gl_let (gl_l (glDs_of fun d hd => ?_) fun z r e => ?_) (gl_let (gl_one (gl_later (gl_one (gl_slot _)) (gl_body ns))) (gl_give (gl_slot _)))
  · obtain ⟨q, hq, rfl⟩ := List.mem_map.mp hd
    refine gl_later (gl_one (gl_slot _)) ?_
    rcases List.mem_append.mp hq with h | h
    · obtain ⟨j, _, rfl⟩ := List.mem_map.mp h
      exact gl_needs _
    · rw [List.mem_singleton.mp h]
      exact gl_give (gl_slot _)
  · have : Dd.str z ∈ (rowsM M ts).map fun q => laterD [slotD (q.1 : Int)] q.2 := by rw [e]; exact List.mem_cons_self ..
    obtain ⟨q, _, e⟩ := List.mem_map.mp this
    cases e
theorem gl_all (M s : Nat) (ts : Nat → Nat) (ns : List Int) : ∀ q ∈ [((0 : Int), mainB M s ts ns), (2, firstB)], GlD 2 q.2 := fun q hq => by
  rcases List.mem_cons.mp hq with e | e
  · rw [e]; exact gl_main M s ts ns
  · rw [List.mem_singleton.mp e]; exact gl_prim (gl_slot 0) (gl_slot 1)
theorem tnext_of {D : Ends} {σ : St} {H : Hp} (h : D.nx σ H) : tNext D σ H := h
theorem keep_trans {p : Addr} {H1 H2 H3 : Hp} (h : Keep p H1 H2) (k : Keep p H2 H3) : Keep p H1 H3 := fun b o n e => k b o n (h b o n e)
section
variable {P : Program} {w : World} {K : PySem.W.Frag} {mg : Str → Option Value} {base : Heap}
abbrev sLNeeds : Stmt := topS 64
theorem scLNeeds : FnScope ["w", "at", "turn"] ["w", "at"] (defScope sLNeeds) := ⟨rfl, rfl, rfl, by decide +kernel, rfl, by decide +kernel, by decide +kernel⟩
def spNeeds : Sp := fun vs H Q _ => ∃ (p r : Addr), vs = [.ref p, .int 0] ∧ DrawsAt H p r ∧ ∀ (t : Nat) (v : V) (H' : Hp), Keep p H H' → DrawsAt H' p r → (needsB t).At F0 H' v → Q v H'
theorem c_lneeds {f : Addr} {fd : FuncData} (c_law_next : C8.Cal P w K mg base 2 "_law_next" spNext []) (F : Fun K "_law_needs" "_law_needs" sLNeeds f fd) (b : Binds K fd ["w", "at"] []) (hm : mg "_law_needs" = some (.ref f)) : C8.Cal P w K mg base 3 "_law_needs" spNeeds [] := by
  refine cal_of F hm b scLNeeds (fun vs H Q E h => ?_) (fun cdv A outer s H vs Q E hr h => ?_)
  · obtain ⟨p, r, rfl, _⟩ := h
    rfl
  obtain ⟨p, r, rfl, d0, q⟩ := h
  refine ⟨_, (pss_cons (ps_set (i := 2) scLNeeds.nd rfl (Or.inl rfl) (C8.pe_c c_law_next hr (by decide) rfl (pa_cons (pv 0) (pa_cons pe_int pa_nil))))
    (pss_cons (ps_if (pt_cmpR op_eq (pv 2) pe_int (nomark _))
      (pss_one (ps_ret (pe_tup (pa_cons pe_str (pa_cons (pe_tup (pa_cons pe_str (pa_cons (pv 1) pa_nil))) pa_nil)))))
      pss_nil)
    (pss_cons (ps_if (pt_cmpR op_eq (pv 2) pe_int (nomark _))
      (pss_one (ps_ret (pe_tup (pa_cons pe_str (pa_cons pe_str (pa_cons (pe_tup (pa_cons pe_str (pa_cons pe_int pa_nil))) (pa_cons (pe_tup (pa_cons pe_str (pa_cons (pv 1) pa_nil))) pa_nil)))))))
      pss_nil)
    (pss_cons (ps_if (pt_cmpR op_eq (pv 2) pe_int (nomark _))
      (pss_one (ps_ret (pe_tup (pa_cons pe_str (pa_cons pe_str (pa_cons (pe_tup (pa_cons pe_str (pa_cons (pv 1) pa_nil))) (pa_cons (pe_tup (pa_cons pe_str (pa_cons pe_int pa_nil))) pa_nil)))))))
      pss_nil)
    (pss_cons (ps_if (pt_cmpR op_eq (pv 2) pe_int (nomark _))
      (pss_one (ps_ret (pe_tup (pa_cons pe_str (pa_cons (pe_tup (pa_cons pe_str (pa_cons (pe_tup (pa_cons pe_str (pa_cons (pv 1) pa_nil))) pa_nil))) (pa_cons (pe_tup (pa_cons (pe_tup (pa_cons pe_int (pa_cons (pe_tup (pa_cons pe_str (pa_cons (pe_tup (pa_cons pe_str (pa_cons pe_int pa_nil))) pa_nil))) pa_nil))) pa_nil)) (pa_cons pe_non pa_nil)))))))
      pss_nil)
    (pss_cons (ps_if (pt_cmpR op_eq (pv 2) pe_int (nomark _))
      (pss_one (ps_ret (pe_tup (pa_cons pe_str (pa_cons (pe_tup (pa_cons pe_str (pa_cons pe_int pa_nil))) (pa_cons (pe_tup (pa_cons (pe_tup (pa_cons pe_str (pa_cons (pv 1) pa_nil))) (pa_cons (pe_tup (pa_cons pe_str (pa_cons pe_int pa_nil))) pa_nil))) pa_nil))))))
      pss_nil)
    (pss_one (ps_ret (pe_tup (pa_cons pe_str (pa_cons (pe_tup (pa_cons pe_str (pa_cons (pe_tup (pa_cons pe_str (pa_cons (pv 1) pa_nil))) pa_nil))) (pa_cons (pe_tup (pa_cons pe_str (pa_cons (pe_tup (pa_cons pe_str (pa_cons pe_int pa_nil))) pa_nil))) pa_nil)))))))))))), ?_⟩
  refine ⟨_, rfl, p, r, 6, rfl, (by decide), d0, fun u H1 u0 u1 k1 d1 => ?_⟩
  show gName 2 (V.int u) _ _ _
  have go : ∀ {te : TE} {d : Dd} (t : Nat), needsB t = d → Lit [some (.ref p), some (.int 0), some (.int u)] H1 te d → te [some (.ref p), some (.int 0), some (.int u)] H1 Q := fun t e h => h.go fun v H' s' hat => q t v H' (keep_trans k1 fun b o _ e => s' b o e) (d1.same s') (e ▸ hat)
  have a0 : (Dd.int 0).At F0 H1 (.int 0) := rfl
  refine ⟨_, rfl, rfl, _, rfl, ?_⟩
  refine ite2 (fun _ => ?_) (fun _ => ?_)
  · refine go 0 (by rfl) ?_
    (repeat (first | exact lit_nil | refine lit_cons ?_ ?_ | refine lit_tup ?_ (by rfl) | exact lit_str (by decide +kernel) | exact lit_int | exact lit_non | (refine lit_var rfl ?_; first | assumption | exact at_int')))
  refine ⟨_, rfl, rfl, _, rfl, ?_⟩
  refine ite2 (fun _ => ?_) (fun _ => ?_)
  · refine go 1 (by rfl) ?_
    (repeat (first | exact lit_nil | refine lit_cons ?_ ?_ | refine lit_tup ?_ (by rfl) | exact lit_str (by decide +kernel) | exact lit_int | exact lit_non | (refine lit_var rfl ?_; first | assumption | exact at_int')))
  refine ⟨_, rfl, rfl, _, rfl, ?_⟩
  refine ite2 (fun _ => ?_) (fun _ => ?_)
  · refine go 2 (by rfl) ?_
    (repeat (first | exact lit_nil | refine lit_cons ?_ ?_ | refine lit_tup ?_ (by rfl) | exact lit_str (by decide +kernel) | exact lit_int | exact lit_non | (refine lit_var rfl ?_; first | assumption | exact at_int')))
  refine ⟨_, rfl, rfl, _, rfl, ?_⟩
  refine ite2 (fun _ => ?_) (fun _ => ?_)
  · refine go 3 (by rfl) ?_
    (repeat (first | exact lit_nil | refine lit_cons ?_ ?_ | refine lit_tup ?_ (by rfl) | exact lit_str (by decide +kernel) | exact lit_int | exact lit_non | (refine lit_var rfl ?_; first | assumption | exact at_int')))
  refine ⟨_, rfl, rfl, _, rfl, ?_⟩
  refine ite2 (fun _ => ?_) (fun _ => ?_)
  · refine go 4 (by rfl) ?_
    (repeat (first | exact lit_nil | refine lit_cons ?_ ?_ | refine lit_tup ?_ (by rfl) | exact lit_str (by decide +kernel) | exact lit_int | exact lit_non | (refine lit_var rfl ?_; first | assumption | exact at_int')))
  refine tnext_of ?_
  dsimp only
  refine go 5 (by rfl) ?_
  (repeat (first | exact lit_nil | refine lit_cons ?_ ?_ | refine lit_tup ?_ (by rfl) | exact lit_str (by decide +kernel) | exact lit_int | exact lit_non | (refine lit_var rfl ?_; first | assumption | exact at_int')))
end
end Toy

set_option Elab.async false
set_option linter.all false
set_option maxRecDepth 100000
set_option maxHeartbeats 8000000
/-! Part K: the law. -/
namespace Toy
open PySem L2
open PyProof.Rows (envOfC)
theorem lit_addv {σ : St} {H : Hp} {i : Nat} {x j : Int} (e : σ[i]? = some (some (.int x))) : Lit σ H (tOp (rI0 fun i j => V.int (i + j)) (tVar i) (tC (.int j))) (.int (x + j)) := fun H1 _ Q q => ⟨_, e, _, _, rfl, rfl, q _ _ same_id at_int'⟩
section
variable {σ : St} {H : Hp} {te : TE} {ta : TA} {d : Dd} {ds : List Dd}
theorem litc {Q : List V → Hp → Prop} (h : Lit σ H te d) (k : ∀ v H', Same H H' → d.At F0 H' v → (ta σ H' fun xs H2 => Q (v :: xs) H2)) : tCons te ta σ H Q := h H same_id _ k
theorem lita_go {Q : List V → Hp → Prop} (h : LitA σ H ta ds) (k : ∀ vs H', Same H H' → Dd.Ats F0 H' ds vs → Q vs H') : ta σ H Q := h H same_id Q k
theorem conc {c : V} {Q : List V → Hp → Prop} (k : ta σ H fun xs H2 => Q (c :: xs) H2) : tCons (tC c) ta σ H Q := k
theorem consT {Q : List V → Hp → Prop} (k : te σ H fun v H1 => ta σ H1 fun xs H2 => Q (v :: xs) H2) : tCons te ta σ H Q := k
theorem tasg_go {g : TG} {D : Ends} (h : Lit σ H te d) (k : ∀ v H', Same H H' → d.At F0 H' v → g v σ H' D.nx) : tAsg te g D σ H := h H same_id _ k
theorem tseqasg_go {g : TG} {D : Ends} {t2 : TS} (h : Lit σ H te d) (k : ∀ v H', Same H H' → d.At F0 H' v → g v σ H' fun σ' H'' => t2 D σ' H'') : tSeq (tAsg te g) t2 D σ H := h H same_id _ k
theorem tseqasg_any {g : TG} {D : Ends} {t2 : TS} (k : te σ H fun v H' => g v σ H' fun σ' H'' => t2 D σ' H'') : tSeq (tAsg te g) t2 D σ H := k
theorem gname_go {i : Nat} {v : V} {Q : St → Hp → Prop} (k : Q (σ.set i (some v)) H) : gName i v σ H Q := k
theorem tcall_go {sp : Sp} {E : XK} {Q : VK} (k : ta σ H fun vs H1 => sp (vs ++ []) H1 Q E) : tCall sp [] E ta σ H Q := k
theorem tupc {Q : VK} (k : ta σ H fun xs H1 => xs.length ≤ sizeLine ∧ ∀ p, H1 p = none → Q (.ref p) (upd H1 p (.tup xs))) : tTup ta σ H Q := k
end
def memD (M : Nat) (ts : Nat → Nat) (j : Nat) : Dd := laterD [slotD (((j + 1) % M : Nat) : Int)] (needsB (ts j))
structure TxtLw (mg : Str → Option Value) : Prop where
  zlen : mg "len" = none
  zrange : mg "range" = none
  zint : mg "int" = none
  ztuple : mg "tuple" = none
section
variable {P : Program} {w : World} {K : PySem.W.Frag} {mg : Str → Option Value} {base : Heap}
abbrev sLaw : Stmt := topS 65
theorem scLaw : FnScope ["script", "w", "many", "members", "k", "last", "body", "numbers", "number", "rest", "start", "main", "last_frame", "schedule", "first", "report"] ["script"] (defScope sLaw) := ⟨rfl, rfl, rfl, by decide +kernel, rfl, by decide +kernel, by decide +kernel⟩
def spLaw (K : PySem.W.Frag) : Sp := fun vs H Q _ => ∃ (a : Addr) (ns : List Int), vs = [.ref a] ∧ SqL K H a (ns.map V.int) ∧ ns.length ≤ 63 ∧ ∀ H', Q (.bl true) H'
theorem c_law {f : Addr} {fd : FuncData} (T : TxtLw mg) (c_law_draws : C8.Cal P w K mg base 1 "_law_draws" (spDraws K) []) (c_law_next : C8.Cal P w K mg base 2 "_law_next" spNext []) (c_law_needs : C8.Cal P w K mg base 3 "_law_needs" spNeeds []) (crun_code : C8.Cal P w K mg base 7 "run_code" (spRunC K) [])
    (F : Fun K "law" "law" sLaw f fd) : FnOk P w K mg base CX0 8 f fd ["script"] (spLaw K) := by
  refine F.ok scLaw (fun vs H Q E h => ?_) (fun cdv A outer s H vs Q E hr h => ?_)
  · obtain ⟨a, ns, rfl, _⟩ := h
    rfl
  obtain ⟨a, ns, rfl, hS, h63, q⟩ := h
  have hu := hu_of hr
  have hu64 := hr.units
  refine ⟨_, (pss_cons (ps_set (i := 1) scLaw.nd rfl (Or.inr rfl) (pe_disp (pps_cons pe_str (C8.pe_c c_law_draws hr (by decide) rfl (pa_cons (pv 0) (pa_cons pe_int pa_nil))) (pps_cons pe_str pe_int pps_nil)) rfl rfl (by decide) (by decide)))
    (pss_cons (ps_set (i := 2) scLaw.nd rfl (Or.inl rfl) (pe_op op_add pe_int (C8.pe_c c_law_next hr (by decide) rfl (pa_cons (pv 1) (pa_cons pe_int pa_nil)))))
    (pss_cons (ps_set (i := 3) scLaw.nd rfl (Or.inl rfl) (pe_lst pa_nil))
    (pss_cons (ps_for PassesOwn.never rfl (pi_range1 rfl T.zrange (pa_cons (pv 2) pa_nil)) (pg_name (i := 4) scLaw.nd rfl (Or.inl rfl))
      (pss_one (ps_expr (pe_bm PySem.F.plainAttrs_list PySem.F.slot_list_append PySem.F.type_list_append mt_append (pv 3) (pa_cons (pe_tup (pa_cons pe_str (pa_cons (pe_tup (pa_cons (pe_tup (pa_cons pe_str (pa_cons (pe_op op_mod (pe_callTy call_int1 rfl T.zint boot_int (pa_cons (pe_op op_add (pv 4) pe_int) pa_nil)) (pv 2)) pa_nil))) pa_nil)) (pa_cons (C8.pe_c c_law_needs hr (by decide) rfl (pa_cons (pv 1) (pa_cons pe_int pa_nil))) pa_nil)))) pa_nil)))))
    (pss_cons (ps_expr (pe_bm PySem.F.plainAttrs_list PySem.F.slot_list_append PySem.F.type_list_append mt_append (pv 3) (pa_cons (pe_tup (pa_cons pe_str (pa_cons (pe_tup (pa_cons (pe_tup (pa_cons pe_str (pa_cons (pv 2) pa_nil))) pa_nil)) (pa_cons (pe_tup (pa_cons pe_str (pa_cons (pe_tup (pa_cons pe_str (pa_cons pe_int pa_nil))) pa_nil))) pa_nil)))) pa_nil)))
    (pss_cons (ps_set (i := 5) scLaw.nd rfl (Or.inl rfl) (pe_tup (pa_cons pe_str (pa_cons (pe_tup (pa_cons (pe_tup (pa_cons pe_str (pa_cons (pe_tup (pa_cons (pe_tup (pa_cons pe_str (pa_cons pe_int pa_nil))) pa_nil)) (pa_cons (pe_tup (pa_cons pe_str (pa_cons (pe_tup (pa_cons pe_str (pa_cons pe_int pa_nil))) pa_nil))) pa_nil)))) (pa_cons (pe_tup (pa_cons pe_str (pa_cons (pe_tup pa_nil) (pa_cons (pe_tup (pa_cons pe_str (pa_cons pe_int (pa_cons (pe_tup pa_nil) pa_nil)))) pa_nil)))) pa_nil))) (pa_cons (pe_tup (pa_cons pe_str (pa_cons pe_int (pa_cons (pe_tup (pa_cons (pe_tup (pa_cons pe_str (pa_cons pe_int pa_nil))) (pa_cons (pe_tup (pa_cons pe_str (pa_cons pe_int pa_nil))) pa_nil))) pa_nil)))) pa_nil)))))
    (pss_cons (ps_set (i := 6) scLaw.nd rfl (Or.inl rfl) (pv 5))
    (pss_cons (ps_setLc (i := 7) (own := [("k", 4)]) (g := gName 4) (tt := tYes) rfl scLaw.nd rfl rfl (sw_true rfl rfl rfl (by decide +kernel)) (pi_range1 rfl T.zrange (pa_cons (C8.pe_c c_law_next hr (by decide) rfl (pa_cons (pv 1) (pa_cons pe_int pa_nil))) pa_nil)) (blkOk_by (own := [("k", 4)]) (N := ["script", "w", "many", "members", "k", "last", "body", "numbers", "number", "rest", "start", "main", "last_frame", "schedule", "first", "report"]) (sc := defScope sLaw) (by decide +kernel)) (fun _ _ _ _ _ => (pg_name (i := 4) scLaw.nd rfl (Or.inl rfl))) (fun _ _ _ _ _ => pts_nil) (fun _ _ _ _ _ => (C8.pe_c c_law_next hr (by decide) rfl (pa_cons (pv 1) (pa_cons pe_int pa_nil)))))
    (pss_cons (ps_for PassesOwn.never rfl (pi_range1 rfl T.zrange (pa_cons (pe_callB call_len_seq rfl T.zlen PySem.boot_len (pa_cons (pv 7) pa_nil)) pa_nil)) (pg_name (i := 4) scLaw.nd rfl (Or.inl rfl))
      (pss_cons (ps_set (i := 8) scLaw.nd rfl (Or.inl rfl) (pe_ix ix_list (pv 7) (pe_op op_sub (pe_op op_sub (pe_callB call_len_seq rfl T.zlen PySem.boot_len (pa_cons (pv 7) pa_nil)) pe_int) (pv 4)) (fun _ _ => rfl)))
    (pss_cons (ps_set (i := 9) scLaw.nd rfl (Or.inl rfl) (pe_tup (pa_cons pe_str (pa_cons (pe_tup (pa_cons (pe_tup (pa_cons pe_str (pa_cons pe_int pa_nil))) pa_nil)) (pa_cons (pv 6) pa_nil)))))
    (pss_one (ps_set (i := 6) scLaw.nd rfl (Or.inl rfl) (pe_tup (pa_cons pe_str (pa_cons (pe_tup (pa_cons (pv 9) pa_nil)) (pa_cons (pe_tup (pa_cons pe_str (pa_cons pe_int (pa_cons (pe_tup (pa_cons (pe_tup (pa_cons pe_str (pa_cons (pv 8) pa_nil))) (pa_cons (pe_tup (pa_cons pe_str (pa_cons pe_int pa_nil))) pa_nil))) pa_nil)))) pa_nil)))))))))
    (pss_cons (ps_set (i := 10) scLaw.nd rfl (Or.inl rfl) (C8.pe_c c_law_next hr (by decide) rfl (pa_cons (pv 1) (pa_cons (pv 2) pa_nil))))
    (pss_cons (ps_set (i := 11) scLaw.nd rfl (Or.inl rfl) (pe_tup (pa_cons pe_str (pa_cons (pe_callTy call_tuple_of rfl T.ztuple boot_tuple (pa_cons (pv 3) pa_nil)) (pa_cons (pe_tup (pa_cons pe_str (pa_cons (pe_tup (pa_cons (pe_tup (pa_cons pe_str (pa_cons (pe_tup (pa_cons (pe_tup (pa_cons pe_str (pa_cons (pv 10) pa_nil))) pa_nil)) (pa_cons (pv 6) pa_nil)))) pa_nil)) (pa_cons (pe_tup (pa_cons pe_str (pa_cons (pe_tup (pa_cons pe_str (pa_cons (pe_op op_add (pv 2) pe_int) pa_nil))) pa_nil))) pa_nil)))) pa_nil)))))
    (pss_cons (ps_setLc (i := 12) (own := [("number", 8)]) (g := gName 8) (tt := tYes) rfl scLaw.nd rfl rfl (sw_true rfl rfl rfl (by decide +kernel)) (pi_list (pv 7)) (blkOk_by (own := [("number", 8)]) (N := ["script", "w", "many", "members", "k", "last", "body", "numbers", "number", "rest", "start", "main", "last_frame", "schedule", "first", "report"]) (sc := defScope sLaw) (by decide +kernel)) (fun _ _ _ _ _ => (pg_name (i := 8) scLaw.nd rfl (Or.inl rfl))) (fun _ _ _ _ _ => pts_nil) (fun _ _ _ _ _ => (pe_tup (pa_cons pe_str (pa_cons (pv 8) pa_nil)))))
    (pss_cons (ps_setLc (i := 13) (own := [("k", 4)]) (g := gName 4) (tt := tYes) rfl scLaw.nd rfl rfl (sw_true rfl rfl rfl (by decide +kernel)) (pi_range1 rfl T.zrange (pa_cons (C8.pe_c c_law_next hr (by decide) rfl (pa_cons (pv 1) (pa_cons pe_int pa_nil))) pa_nil)) (blkOk_by (own := [("k", 4)]) (N := ["script", "w", "many", "members", "k", "last", "body", "numbers", "number", "rest", "start", "main", "last_frame", "schedule", "first", "report"]) (sc := defScope sLaw) (by decide +kernel)) (fun _ _ _ _ _ => (pg_name (i := 4) scLaw.nd rfl (Or.inl rfl))) (fun _ _ _ _ _ => pts_nil) (fun _ _ _ _ _ => (C8.pe_c c_law_next hr (by decide) rfl (pa_cons (pv 1) (pa_cons pe_int pa_nil)))))
    (pss_cons (ps_set (i := 14) scLaw.nd rfl (Or.inl rfl) (pe_tup (pa_cons pe_int (pa_cons (pe_tup (pa_cons pe_str (pa_cons pe_str (pa_cons (pe_tup (pa_cons pe_str (pa_cons pe_int pa_nil))) (pa_cons (pe_tup (pa_cons pe_str (pa_cons pe_int pa_nil))) pa_nil))))) pa_nil))))
    (pss_cons (ps_set (i := 15) scLaw.nd rfl (Or.inl rfl) (C8.pe_c crun_code hr (by decide) rfl (pa_cons (pe_tup (pa_cons (pe_tup (pa_cons (pe_tup (pa_cons pe_int (pa_cons (pv 11) pa_nil))) (pa_cons (pv 14) pa_nil))) (pa_cons pe_int pa_nil))) (pa_cons (pe_op op_pow pe_int pe_int) (pa_cons (pv 13) (pa_cons pe_int pa_nil))))))
    (pss_cons (ps_if (PW.pt (pw_or (pt_cmpR (op_neD hu64) (pe_ix ix_tup (pv 15) pe_int (fun _ _ => rfl)) (pe_callTy call_tuple_of rfl T.ztuple boot_tuple (pa_cons (pv 12) pa_nil)) (nomark _)) (pw_or1 (pt_cmpR (op_neD hu64) (pe_ix ix_tup (pv 15) pe_int (fun _ _ => rfl)) (pe_tup (pa_cons pe_str pa_nil)) (nomark _)))))
      (pss_one (ps_ret pe_bl))
      pss_nil)
    (pss_one (ps_ret (pe_cmpR op_eq (pe_ix ix_tup (pv 15) pe_int (fun _ _ => rfl)) (pe_op op_add (pe_op op_add (pe_op op_add pe_int (pe_callB call_len_seq rfl T.zlen PySem.boot_len (pa_cons (pv 7) pa_nil))) pe_int) (pv 2)) (nomark _)))))))))))))))))))), ?_⟩
  intro p hp
  refine ⟨_, rfl, a, ns, 120, rfl, (same_new hp _).seq hS, h63, by decide, fun r row H2 hr0 s2 hrow => ?_⟩
  have npr : r ≠ p := fun e => by rw [e, upd_same] at hr0; cases hr0
  have hp2 := s2 _ _ (upd_same (H := H) (a := p) (o := .dK []))
  refine ⟨hp2, [(Sum.inr "draws", V.ref r), (Sum.inr "at", V.int 0)], rfl, (by show 2 ≤ 15; decide), ?_⟩
  have d2 : DrawsAt (upd H2 p (.dK (mergeK [] [(Sum.inr "draws", V.ref r), (Sum.inr "at", V.int 0)]))) p r := ⟨row, 0, by rw [upd_same, dk_merge]; rfl, by rw [upd_ne npr]; exact hrow⟩
  generalize upd H2 p (.dK (mergeK [] [(Sum.inr "draws", V.ref r), (Sum.inr "at", V.int 0)])) = H2 at d2 ⊢
  clear hp2 s2 hrow hr0 hp npr
  refine ⟨_, rfl, p, r, 5, rfl, by decide, d2, fun n1 H3 n10 n11 k3 d3 => ⟨_, _, rfl, rfl, ?_⟩⟩
  show gName 2 (V.int (1 + n1)) _ _ _
  obtain ⟨M, eM⟩ : ∃ M : Nat, 1 + n1 = (M : Int) := ⟨(1 + n1).toNat, by omega⟩
  rw [eM]
  have hM1 : 1 ≤ M := by omega
  have hM5 : M ≤ 5 := by omega
  clear eM n10 n11 n1 d2 k3
  refine ⟨by show 0 ≤ sizeLine; decide, fun Lm hLm => ?_⟩
  have s3 := same_new hLm (.lst [])
  have e3 : upd H3 Lm (.lst []) Lm = some (.lst []) := upd_same
  have d4 := d3.same s3
  have nLr0 := (d3.fresh hLm).2
  generalize upd H3 Lm (.lst []) = H4 at e3 d4 ⊢
  clear s3 hLm d3
  have nLp := d4.ne_list e3
  have nLr : Lm ≠ r := nLr0
  show gName 3 (V.ref Lm) _ _ _
  refine ⟨_, rfl, (M : Int), rfl, by omega, by omega, for_range (fun i st G => ∃ (v4 : Option V) (xs : List V) (ts : Nat → Nat), st = [some (.ref a), some (.ref p), some (.int (M : Int)), some (.ref Lm), v4, none, none, none, none, none, none, none, none, none, none, none] ∧ DrawsAt G p r ∧ G Lm = some (.lst xs) ∧ Dd.Ats F0 G ((List.range i).map (memD M ts)) xs)
    ⟨none, [], fun _ => 0, rfl, d4, e3, rfl⟩ ?_ ?_⟩
  · rintro i st G hi ⟨v4, xs, ts, rfl, dG, eL, hx⟩
    have hi2 : i < M := by simpa using hi
    have hxl := ats_len hx
    rw [List.length_map, List.length_range] at hxl
    show gName 4 (V.int (0 + (i : Int))) _ _ _
    refine ⟨_, rfl, .inl ⟨rfl, _, SqL.of eL⟩, ?_⟩
    refine consT (tupc (conc ?_))
    refine litc (d := .tup [slotD (((i + 1) % M : Nat) : Int)]) ?_ fun v1 G1 s1 a1 => ?_
    · refine lit_tup (lit_cons (lit_tup (lit_cons (lit_str (by decide +kernel)) (lit_cons ?_ lit_nil)) (by rfl)) lit_nil) (by rfl)
      refine fun H1 _ Q q => ⟨_, rfl, _, _, rfl, rfl, .inl ⟨_, rfl, _, rfl, _, _, rfl, rfl, (by show (0 : Int) < (M : Int); omega), ?_⟩⟩
      have e : (0 + (i : Int) + 1) % (M : Int) = (((i + 1) % M : Nat) : Int) := by rw [Int.natCast_emod]; congr 1; omega
      show Q (.int ((0 + (i : Int) + 1) % (M : Int))) _
      rw [e]
      exact q _ _ same_id at_int'
    have d1 := dG.same s1
    refine consT ⟨_, rfl, p, r, rfl, d1, fun t v2 G2 k2 d2 a2 => ⟨by show 3 ≤ sizeLine; decide, fun t3 ht3 => ?_⟩⟩
    have s3 := same_new ht3 (.tup [.str "later", v1, v2])
    have d3 := d2.same s3
    have a3 : (laterD [slotD (((i + 1) % M : Nat) : Int)] (needsB t)).At F0 (upd G2 t3 (.tup [.str "later", v1, v2])) (.ref t3) := at_tup upd_same (ats_cons (at_str' (by decide +kernel)) (ats_cons ((a1.keep (fr_keep (B := F0) k2 d1)).keep (fr_same s3)) (ats_cons (a2.keep (fr_same s3)) ats_nil)))
    have eL3 := s3 _ _ (k2 _ _ nLp (s1 _ _ eL))
    have hx3 := ((hx.keep (fr_same (B := F0) s1)).keep (fr_keep (B := F0) k2 d1)).keep (fr_same (B := F0) s3)
    show tNil _ (upd G2 t3 (.tup [.str "later", v1, v2])) _
    generalize upd G2 t3 (.tup [.str "later", v1, v2]) = G3 at d3 a3 eL3 hx3 ⊢
    have f4 := fr_list (B := F0) eL3 (fun z => z) (o := HO.lst (xs ++ [V.ref t3]))
    refine ⟨Lm, _, _, rfl, rfl, eL3, szl (by omega), _, xs ++ [.ref t3], fun j => if j = i then t else ts j, rfl, d3.off nLp nLr _, upd_same, ?_⟩
    rw [List.range_succ, List.map_append]
    refine ats_app ?_ (ats_one ?_)
    · have : (List.range i).map (memD M fun j => if j = i then t else ts j) = (List.range i).map (memD M ts) := List.map_congr_left fun j hj => by
        have := List.mem_range.mp hj
        show laterD _ (needsB (if j = i then t else ts j)) = laterD _ _
        rw [if_neg (by omega)]
      rw [this]
      exact hx3.keep f4
    · have : memD M (fun j => if j = i then t else ts j) i = laterD [slotD (((i + 1) % M : Nat) : Int)] (needsB t) := by
        show laterD _ (needsB (if i = i then t else ts i)) = laterD _ _
        rw [if_pos rfl]
      rw [this]
      exact Dd.At.keep f4 a3
  rintro st G ⟨v4, xs, ts, rfl, dG, eL, hx⟩
  rw [Int.toNat_natCast] at hx
  have hxl := ats_len hx
  rw [List.length_map, List.length_range] at hxl
  -- the one that needs itself
  refine ⟨_, rfl, .inl ⟨rfl, _, SqL.of eL⟩, ?_⟩
  refine litc (d := laterD [slotD (M : Int)] (giveD (slotD 0))) ?_ fun v1 G1 s1 a1 => ?_
  · (repeat (first | exact lit_nil | refine lit_cons ?_ ?_ | refine lit_tup ?_ (by rfl) | exact lit_str (by decide +kernel) | exact lit_int | exact lit_non | exact lit_addv rfl | (refine lit_var rfl ?_; first | assumption | exact at_int')))
  have d1 := dG.same s1
  have eL1 := s1 _ _ eL
  have f2 := fr_list (B := F0) eL1 (fun z => z) (o := HO.lst (xs ++ [v1]))
  refine ⟨Lm, _, _, rfl, rfl, eL1, szl (by omega), ?_⟩
  have hmem : Dd.Ats F0 (upd G1 Lm (.lst (xs ++ [v1]))) ((rowsM M ts).map fun q => laterD [slotD (q.1 : Int)] q.2) (xs ++ [v1]) := by
    unfold rowsM
    rw [List.map_append, List.map_map]
    exact ats_app ((hx.keep (fr_same (B := F0) s1)).keep f2) (ats_one (Dd.At.keep f2 a1))
  have d2 := d1.off nLp nLr (.lst (xs ++ [v1]))
  have eL2 : upd G1 Lm (.lst (xs ++ [v1])) Lm = some (.lst (xs ++ [v1])) := upd_same
  generalize upd G1 Lm (.lst (xs ++ [v1])) = G2 at hmem d2 eL2 ⊢
  clear f2 eL1 d1 a1 s1 hx eL dG
  generalize xs ++ [v1] = mxs at hmem eL2
  -- the last pair
  dsimp only
  refine tseqasg_go (d := lastB) ?_ fun vB G3 s3 aB => ?_
  · (repeat (first | exact lit_nil | refine lit_cons ?_ ?_ | refine lit_tup ?_ (by rfl) | exact lit_str (by decide +kernel) | exact lit_int | exact lit_non | exact lit_addv rfl | (refine lit_var rfl ?_; first | assumption | exact at_int')))
  have d3 := d2.same s3
  have eL3 := s3 _ _ eL2
  have hm3 := hmem.keep (fr_same (B := F0) s3)
  clear d2 eL2 hmem s3
  show gName 5 vB _ _ _
  refine ⟨_, rfl, ?_⟩
  show gName 6 vB _ _ _
  -- the numbers
  refine ⟨_, rfl, p, r, 6, rfl, by decide, d3, fun n2 G4 n20 n21 k4 d4 => ⟨n2, rfl, by omega, by omega, fun D hD => ?_⟩⟩
  have s5 := same_new hD (.lst [])
  have nDp := (d4.fresh hD).1
  have nDr := (d4.fresh hD).2
  have eL4 := k4 _ _ nLp eL3
  have hm4 := hm3.keep (fr_keep (B := F0) k4 d3)
  have aB4 := aB.keep (fr_keep (B := F0) k4 d3)
  have nDL : Lm ≠ D := ne_of_none eL4 hD
  refine lc_range (Pv := fun i G => ∃ l : List Int, l.length = i ∧ G D = some (.lst (l.map V.int)) ∧ DrawsAt G p r ∧ G Lm = some (.lst mxs) ∧ Dd.Ats F0 G ((rowsM M ts).map fun q => laterD [slotD (q.1 : Int)] q.2) mxs ∧ lastB.At F0 G vB)
    ⟨[], rfl, upd_same, d4.same s5, s5 _ _ eL4, hm4.keep (fr_same s5), aB4.keep (fr_same s5)⟩ ?_ ?_
  · rintro i G hi ⟨l, hl, eD, dG, eLG, hmG, aG⟩
    refine ⟨rfl, ?_⟩
    refine tYes_if ?_
    refine ⟨_, rfl, p, r, 99, rfl, by decide, dG, fun n3 G5 n30 n31 k5 d5 => ?_⟩
    have eD5 := k5 _ _ nDp eD
    have f5 := fr_list (B := F0) eD5 (fun z => z) (o := HO.lst (l.map V.int ++ [V.int n3]))
    refine ⟨_, eD5, by rw [List.length_map]; exact szl (by omega), l ++ [n3], by rw [List.length_append, hl]; rfl, by rw [upd_same, List.map_append]; rfl, d5.off nDp nDr _, by rw [upd_ne nDL]; exact k5 _ _ nLp eLG, (hmG.keep (fr_keep (B := F0) k5 dG)).keep f5, (aG.keep (fr_keep (B := F0) k5 dG)).keep f5⟩
  rintro G5 ⟨nums, hnl, eD5, d5, eL5, hm5, aB5⟩
  have hnl5 : nums.length ≤ 5 := by omega
  clear hm4 aB4 eL4 s5 hD d4 k4 hm3 aB eL3 d3
  show gName 7 (V.ref D) _ _ _
  -- the body
  refine ⟨_, rfl, D, _, rfl, .inl (SqL.of eD5), _, rfl, ?_⟩
  rw [List.length_map]
  refine ⟨by omega, by omega, for_range (fun i st G => ∃ (v4 v8 v9 : Option V) (bv : V), st = [some (.ref a), some (.ref p), some (.int (M : Int)), some (.ref Lm), v4, some vB, some bv, some (.ref D), v8, v9, none, none, none, none, none, none] ∧ Same G5 G ∧ (bodyB (nums.drop (nums.length - i))).At F0 G bv)
    ⟨_, none, none, vB, rfl, same_id, by rw [Nat.sub_zero, List.drop_length]; exact aB5⟩ ?_ ?_⟩
  · rintro i st G hi ⟨v4, v8, v9, bv, rfl, sG, ab⟩
    have hi2 : i < nums.length := by simpa using hi
    obtain ⟨n, hn⟩ : ∃ n, nums[nums.length - 1 - i]? = some n := ⟨_, List.getElem?_eq_getElem (by omega)⟩
    have hdr : nums.drop (nums.length - (i + 1)) = n :: nums.drop (nums.length - i) := by
      obtain ⟨h1, h2⟩ := List.getElem?_eq_some_iff.mp hn
      rw [show nums.length - (i + 1) = nums.length - 1 - i by omega, List.drop_eq_getElem_cons h1, h2, show nums.length - 1 - i + 1 = nums.length - i by omega]
    have eDG := sG _ _ eD5
    show gName 4 (V.int (0 + (i : Int))) _ _ _
    refine tseqasg_any ?_
    refine ⟨_, rfl, _, rfl, D, _, rfl, .inl (SqL.of eDG), _, _, rfl, rfl, _, rfl, _, _, rfl, rfl, D, _, _, _, rfl, rfl, SqL.of eDG, (?_ : atI _ _ = some (.int n)), ?_⟩
    · rw [List.length_map, show ((nums.length : Int) - 1 - (0 + (i : Int))) = ((nums.length - 1 - i : Nat) : Int) by omega]
      exact atI_nat (by rw [List.getElem?_map, hn]; rfl)
    show gName 8 (V.int n) _ _ _
    refine tseqasg_go (d := laterD [slotD 0] (bodyB (nums.drop (nums.length - i)))) ?_ fun v9 G6 s6 a9 => ?_
    · (repeat (first | exact lit_nil | refine lit_cons ?_ ?_ | refine lit_tup ?_ (by rfl) | exact lit_str (by decide +kernel) | exact lit_int | exact lit_non | exact lit_addv rfl | (refine lit_var rfl ?_; first | assumption | exact at_int')))
    show gName 9 v9 _ _ _
    refine tasg_go (d := bodyB (n :: nums.drop (nums.length - i))) ?_ fun v6 G7 s7 a6 => ?_
    · (repeat (first | exact lit_nil | refine lit_cons ?_ ?_ | refine lit_tup ?_ (by rfl) | exact lit_str (by decide +kernel) | exact lit_int | exact lit_non | exact lit_addv rfl | (refine lit_var rfl ?_; first | assumption | exact at_int')))
    exact ⟨_, _, _, v6, rfl, sameT sG (sameT s6 s7), by rw [hdr]; exact a6⟩
  rintro st G ⟨v4, v8, v9, bv, rfl, sG, ab⟩
  rw [Int.toNat_natCast, Nat.sub_self, List.drop_zero] at ab
  have dG := d5.same sG
  have eDG := sG _ _ eD5
  have eLG := sG _ _ eL5
  have hmG := hm5.keep (fr_same (B := F0) sG)
  clear d5 eD5 eL5 hm5 aB5 sG
  -- where it starts
  refine ⟨_, rfl, _, rfl, p, r, (M : Int), rfl, by omega, dG, fun n3 G1 n30 n31 k1 d1 => ?_⟩
  obtain ⟨s0, es0⟩ : ∃ s0 : Nat, n3 = (s0 : Int) := ⟨n3.toNat, by omega⟩
  subst es0
  have eD1 := k1 _ _ nDp eDG
  have eL1 := k1 _ _ nLp eLG
  have hm1 := hmG.keep (fr_keep (B := F0) k1 dG)
  have ab1 := ab.keep (fr_keep (B := F0) k1 dG)
  clear dG eDG eLG hmG ab k1
  refine gname_go ?_
  dsimp only
  refine tseqasg_any (tupc (conc (consT ?_)))
  refine ⟨_, rfl, Lm, _, rfl, .inl ⟨SqL.of eL1, fun t1 ht1 => ?_⟩⟩
  have s2 := same_new ht1 (.tup mxs)
  have am : (Dd.tup ((rowsM M ts).map fun q => laterD [slotD (q.1 : Int)] q.2)).At F0 (upd G1 t1 (.tup mxs)) (.ref t1) := at_tup upd_same (hm1.keep (fr_same s2))
  have ab2 := ab1.keep (fr_same (B := F0) s2)
  have d2 := d1.same s2
  have eD2 := s2 _ _ eD1
  generalize upd G1 t1 (.tup mxs) = G2 at am ab2 d2 eD2 ⊢
  clear s2 ht1 hm1 ab1 d1 eD1 eL1
  refine litc (d := letD [laterD [slotD (s0 : Int)] (bodyB nums)] (giveD (slotD ((M : Int) + 1)))) ?_ fun v2 G3 s3 a3 => ?_
  · (repeat (first | exact lit_nil | refine lit_cons ?_ ?_ | refine lit_tup ?_ (by rfl) | exact lit_str (by decide +kernel) | exact lit_int | exact lit_non | exact lit_addv rfl | (refine lit_var rfl ?_; first | assumption | exact at_int')))
  refine ⟨by show 3 ≤ sizeLine; decide, fun t4 ht4 => ?_⟩
  have s4 := same_new ht4 (.tup [.str "let", .ref t1, v2])
  have amain : (mainB M s0 ts nums).At F0 (upd G3 t4 (.tup [.str "let", .ref t1, v2])) (.ref t4) := at_tup upd_same (ats_cons (at_str' (by decide +kernel)) (ats_cons (am.keep (fr_same (sameT s3 s4))) (ats_cons (a3.keep (fr_same s4)) ats_nil)))
  have d4 := d2.same (sameT s3 s4)
  have eD4 := sameT s3 s4 _ _ eD2
  show gName 11 (V.ref t4) _ (upd G3 t4 (.tup [.str "let", .ref t1, v2])) _
  generalize upd G3 t4 (.tup [.str "let", .ref t1, v2]) = G4 at amain d4 eD4 ⊢
  clear s4 ht4 am ab2 d2 eD2 s3 a3
  -- what shall be shown
  refine ⟨_, rfl, D, rfl, ⟨_, SqL.of eD4⟩, fun D2 hD2 => ?_⟩
  have sD2 := same_new hD2 (.lst [])
  have nD2p := (d4.fresh hD2).1
  refine lc_list (a := D) (xs := nums.map V.int) (fun i G => Same G4 G ∧ ∃ ys, G D2 = some (.lst ys) ∧ Dd.Ats F0 G ((nums.take i).map fun n => (Ev.shw n).D) ys) ⟨sD2, [], upd_same, rfl⟩ (fun i G _ ⟨h, _⟩ => SqL.of (h _ _ eD4)) ?_ ?_
  · rintro i x G hx ⟨sG, ys, eY, hy⟩
    rw [List.getElem?_map] at hx
    obtain ⟨n, hn, rfl⟩ := Option.map_eq_some_iff.mp hx
    have hil := (List.getElem?_eq_some_iff.mp hn).1
    have hyl := ats_len hy
    rw [List.length_map, List.length_take] at hyl
    refine ⟨rfl, ?_⟩
    refine tYes_if ?_
    refine Lit.go (d := (Ev.shw n).D) ?_ fun v G5 s5 a5 => ?_
    · (repeat (first | exact lit_nil | refine lit_cons ?_ ?_ | refine lit_tup ?_ (by rfl) | exact lit_str (by decide +kernel) | exact lit_int | exact lit_non | exact lit_addv rfl | (refine lit_var rfl ?_; first | assumption | exact at_int')))
    have eY5 := s5 _ _ eY
    have f5 := fr_list (B := F0) eY5 (fun z => z) (o := HO.lst (ys ++ [v]))
    refine ⟨ys, eY5, szl (by omega), same_upd hD2 (sameT sG s5) _, _, upd_same, ?_⟩
    rw [List.take_add_one, hn, List.map_append]
    exact ats_app ((hy.keep (fr_same s5)).keep f5) (ats_one (Dd.At.keep f5 a5))
  rintro G5 ⟨s5, fys, eY, hy⟩
  rw [List.length_map, List.take_length] at hy
  have d5 := d4.same s5
  have eD5 := s5 _ _ eD4
  have am5 := amain.keep (fr_same (B := F0) s5)
  clear d4 eD4 amain s5 sD2 hD2
  show gName 12 (V.ref D2) _ _ _
  -- the schedule
  refine ⟨_, rfl, p, r, 12, rfl, by decide, d5, fun n2 G6 n20 n21 k6 d6 => ⟨n2, rfl, by omega, by omega, fun D3 hD3 => ?_⟩⟩
  have s7 := same_new hD3 (.lst [])
  have nD3p := (d6.fresh hD3).1
  have nD3r := (d6.fresh hD3).2
  have eY6 := k6 _ _ nD2p eY
  have eD6 := k6 _ _ nDp eD5
  have hy6 := hy.keep (fr_keep (B := F0) k6 d5)
  have am6 := am5.keep (fr_keep (B := F0) k6 d5)
  have n23 : D2 ≠ D3 := ne_of_none eY6 hD3
  have n13 : D ≠ D3 := ne_of_none eD6 hD3
  refine lc_range (Pv := fun i G => ∃ l : List Int, l.length = i ∧ G D3 = some (.lst (l.map V.int)) ∧ DrawsAt G p r ∧ G D2 = some (.lst fys) ∧ G D = some (.lst (nums.map V.int)) ∧ Dd.Ats F0 G (nums.map fun n => (Ev.shw n).D) fys ∧ (mainB M s0 ts nums).At F0 G (.ref t4))
    ⟨[], rfl, upd_same, d6.same s7, s7 _ _ eY6, s7 _ _ eD6, hy6.keep (fr_same s7), am6.keep (fr_same s7)⟩ ?_ ?_
  · rintro i G hi ⟨l, hl, e3, dG, e2, e1, hyG, amG⟩
    refine ⟨rfl, ?_⟩
    refine tYes_if ?_
    refine ⟨_, rfl, p, r, 120, rfl, by decide, dG, fun n3 G5 n30 n31 k5 d5 => ?_⟩
    have e35 := k5 _ _ nD3p e3
    have f5 := fr_list (B := F0) e35 (fun z => z) (o := HO.lst (l.map V.int ++ [V.int n3]))
    refine ⟨_, e35, by rw [List.length_map]; exact szl (by omega), l ++ [n3], by rw [List.length_append, hl]; rfl, by rw [upd_same, List.map_append]; rfl, d5.off nD3p nD3r _, by rw [upd_ne n23]; exact k5 _ _ nD2p e2, by rw [upd_ne n13]; exact k5 _ _ nDp e1, (hyG.keep (fr_keep (B := F0) k5 dG)).keep f5, Dd.At.keep f5 (Dd.At.keep (fr_keep (B := F0) k5 dG) amG)⟩
  rintro G7 ⟨sch, hsl, e73, d7, e72, e71, hy7, am7⟩
  have hsch : sch.length ≤ 1000 := by omega
  clear k6 d6 s7 hD3 eY6 eD6 hy6 am6 d5 eD5 am5 hy eY
  refine gname_go ?_
  dsimp only
  refine tseqasg_go (d := .tup [.int 2, firstB]) ?_ fun vF G8 s8 a8 => ?_
  · (repeat (first | exact lit_nil | refine lit_cons ?_ ?_ | refine lit_tup ?_ (by rfl) | exact lit_str (by decide +kernel) | exact lit_int | exact lit_non | exact lit_addv rfl | (refine lit_var rfl ?_; first | assumption | exact at_int')))
  have am8 := am7.keep (fr_same (B := F0) s8)
  have e83 := s8 _ _ e73
  have e82 := s8 _ _ e72
  have e81 := s8 _ _ e71
  have hy8 := hy7.keep (fr_same (B := F0) s8)
  show gName 14 vF _ _ _
  refine tseqasg_any ?_
  refine tcall_go ?_
  refine litc (d := .tup [.tup [.tup [.int 0, mainB M s0 ts nums], .tup [.int 2, firstB]], .int 0]) ?_ fun vC G9 s9 aC => ?_
  · (repeat (first | exact lit_nil | refine lit_cons ?_ ?_ | refine lit_tup ?_ (by rfl) | exact lit_str (by decide +kernel) | exact lit_int | exact lit_non | exact lit_addv rfl | (refine lit_var rfl ?_; first | assumption | exact at_int')))
  obtain ⟨ga, ys, rfl, hga, x1, ys1, rfl, ⟨fa, us, rfl, hfa, hus⟩, x2, ys2, rfl, h2, h3⟩ := aC
  cases h2
  cases h3
  obtain ⟨mE, hE1, hE2, hE3⟩ := k70_run (M := M) (s := s0) (ts := ts) (ns := nums) (by omega) hM5 hnl5
  refine ⟨_, _, rfl, rfl, ⟨by decide, by decide, by decide⟩, _, rfl, fa, ga, D3, us, 0, 10000, 4000, 1000, sch, [(0, mainB M s0 ts nums), (2, firstB)], .loop, mE, rfl, hga, hfa, hus, by show 2 ≤ 1000; decide, by show 0 < 2; decide, gl_all M s0 ts nums, s9 _ _ e83, hsch, by decide, by decide, hE3, fun v H1 s1 hrep => ?_⟩
  obtain ⟨t, te, sv, exs, co, rfl, ht, hte, hex, hsv⟩ := hrep
  have e2 := s1 _ _ (s9 _ _ e82)
  have e1 := s1 _ _ (s9 _ _ e81)
  have hy1 := hy8.keep (fr_same (B := F0) (sameT s9 s1))
  rw [hE1, List.map_map] at hex
  show gName 15 (V.ref t) _ _ _
  -- what was shown
  have cE : ∀ d ∈ nums.map (fun n => (Ev.shw n).D), Cmp 1 d := fun d hd => by
    obtain ⟨n, _, rfl⟩ := List.mem_map.mp hd
    exact cmp_tup (cmp_cons (cmp_str (by decide +kernel)) (cmp_cons cmp_int cmp_nil))
  have cT : Cmp 2 (Dd.tup (nums.map fun n => (Ev.shw n).D)) := cmp_tup cE
  have shT : SeqAt.shaped (Dd.tup (nums.map fun n => (Ev.shw n).D)).D = true := Dd.shaped cT.lay (Nat.le_trans cT.dep (by decide))
  have aT : (Dd.tup (nums.map fun n => (Ev.shw n).D)).At F0 H1 (.ref te) := at_tup hte hex
  refine ⟨_, rfl, t, _, 0, _, rfl, rfl, SqT.of ht, at0 _ _, _, rfl, D2, _, rfl, .inl ⟨SqL.of e2, fun tl htl => ?_⟩⟩
  have s2 := same_new htl (.tup fys)
  have aT2 : (Dd.tup (nums.map fun n => (Ev.shw n).D)).At F0 (upd H1 tl (.tup fys)) (.ref tl) := at_tup upd_same (hy1.keep (fr_same s2))
  have aT1 := Dd.At.keep (fr_same (B := F0) s2) aT
  have ht2 := s2 _ _ ht
  have e12 := s2 _ _ e1
  have hsv2 := hsv.keep s2
  generalize upd H1 tl (.tup fys) = H2 at aT2 aT1 ht2 e12 hsv2 ⊢
  refine ⟨_, _, Dd.At.dp aT1, Dd.At.dp aT2, shT, shT, _, rfl, ?_⟩
  rw [eqv_self shT]
  refine iteF ?_
  -- how it stopped
  have cL : Cmp 1 Nw.loop.D := cmp_tup (cmp_cons (cmp_str (by decide +kernel)) cmp_nil)
  have shL : SeqAt.shaped Nw.loop.D.D = true := Dd.shaped cL.lay (Nat.le_trans cL.dep (by decide))
  refine ⟨_, rfl, t, _, 1, _, rfl, rfl, SqT.of ht2, at1 _ _ _, by show 1 ≤ sizeLine; decide, fun tl htl => ?_⟩
  have s3 := same_new htl (.tup [.str "loop"])
  have aL2 : Nw.loop.D.At F0 (upd H2 tl (.tup [.str "loop"])) (.ref tl) := at_tup upd_same (ats_cons (at_str' (by decide +kernel)) ats_nil)
  have aL1 : Nw.loop.D.At F0 (upd H2 tl (.tup [.str "loop"])) sv := Dd.At.keep (fr_same (B := F0) s3) hsv2
  have ht3 := s3 _ _ ht2
  have e13 := s3 _ _ e12
  generalize upd H2 tl (.tup [.str "loop"]) = H3 at aL2 aL1 ht3 e13 ⊢
  refine ⟨_, _, Dd.At.dp aL1, Dd.At.dp aL2, shL, shL, _, rfl, ?_⟩
  rw [eqv_self shL]
  refine iteF ?_
  -- how many bodies were entered
  refine ⟨_, rfl, t, _, 2, _, rfl, rfl, SqT.of ht3, at2 _ _ _ _, _, rfl, D, _, rfl, .inl (SqL.of e13), _, _, rfl, rfl, _, _, rfl, rfl, _, rfl, _, _, rfl, rfl, rfl, ?_⟩
  rw [List.length_map, hE2]
  have : decide (V.int ((2 + nums.length + 1 + M : Nat) : Int) = V.int (2 + (nums.length : Int) + 1 + (M : Int))) = true := decide_eq_true (by congr 1)
  show Q (.bl (decide (V.int ((2 + nums.length + 1 + M : Nat) : Int) = V.int (2 + (nums.length : Int) + 1 + (M : Int))))) _
  rw [this]
  exact q _
end
end Toy

set_option Elab.async false
set_option linter.all false
set_option maxRecDepth 100000
set_option maxHeartbeats 4000000
/-! Part L: written tuples and dicts. -/
namespace Toy
open PySem L2
open PyProof.Rows (envOfC)
theorem fand {a b : Bool} (h : (a && b) = true) : a = true ∧ b = true := by rw [Bool.and_eq_true] at h; exact h
def strsAre : List Str → List Value → Bool
  | [], [] => true
  | z :: zs, .str x _ :: us => decide (x = z) && strsAre zs us
  | _, _ => false
theorem strsAre_ok : ∀ {zs : List Str} {us : List Value}, strsAre zs us = true → Vals (zs.map V.str) us
  | [], [], _ => .nil
  | [], _ :: _, h => by simp [strsAre] at h
  | _ :: _, [], h => by simp [strsAre] at h
  | z :: zs, u :: us, h => by
    cases u with
    | str x t =>
      simp only [strsAre, Bool.and_eq_true, decide_eq_true_eq] at h
      exact .cons ⟨t, by rw [h.1]⟩ (strsAre_ok h.2)
    | _ => simp [strsAre] at h
theorem written_tup {K : PySem.W.Frag} {a : Addr} {zs : List Str} {oc : Value} {od : Option Addr} {its : Array Value} {n : Nat} {sl : Array (Option Value)} (hz : zs.length ≤ 1000) (l : K.lookup a = some ⟨oc, od, .seq its n, sl⟩) (c : oc = .type "tuple") (v : strsAre zs its.toList = true) : ∀ H : Hp, SqT K H a (zs.map V.str) := fun H => by
  subst c
  have hv := strsAre_ok v
  have hl := hv.length
  rw [List.length_map] at hl
  have hl' : zs.length = its.size := by rw [hl]; exact Array.length_toList
  exact .inr ⟨_, its, n, l, rfl, rfl, Nat.le_of_lt (szl (by omega)), hv⟩
/-- the keys of a written dict -/
def keysAre : List DictEntry → List Str → Bool
  | [], [] => true
  | e :: es, z :: zs => (match e.key with | .str x _ => decide (x = z) | _ => false) && keysAre es zs
  | _, _ => false
theorem keys_out : ∀ {es : List DictEntry} {zs : List Str}, keysAre es zs = true → ∀ {z : Str}, z ∉ zs → es.find? (·.key.isStr z) = none ∧ es.any (·.refKey) = false
  | [], [], _, _, _ => ⟨rfl, rfl⟩
  | [], _ :: _, h, _, _ => by simp [keysAre] at h
  | _ :: _, [], h, _, _ => by simp [keysAre] at h
  | e :: es, y :: ys, h, z, n => by
    obtain ⟨h1, h2⟩ := fand h
    obtain ⟨g1, g2⟩ := keys_out h2 (fun m => n (List.mem_cons_of_mem _ m))
    obtain ⟨hs, k, v⟩ := e
    cases k with
    | str x t =>
      have hx : x = y := of_decide_eq_true h1
      subst hx
      have hzx : ¬ x = z := fun e => n (by rw [e]; exact List.mem_cons_self ..)
      have hk : (Value.str x t).isStr z = false := by
        rw [PySem.W.isStr_of]
        simp [Value.isStrOf, hzx]
      refine ⟨?_, ?_⟩
      · rw [List.find?_cons]
        show (match (Value.str x t).isStr z with | true => _ | false => _) = none
        rw [hk]
        exact g1
      · rw [List.any_cons, g2]
        rfl
    | _ => cases h1
theorem nsIn_out {K : PySem.W.Frag} {d : Addr} {es : Array DictEntry} {n : Nat} {zs : List Str} (l : K.lookup d = some ⟨.type "dict", none, .dict es n, #[]⟩) (h : keysAre es.toList zs = true) {z : Str} (nz : z ∉ zs) : PySem.W.nsIn K d z = some none := by
  obtain ⟨h1, h2⟩ := keys_out h nz
  unfold PySem.W.nsIn
  rw [l]
  show (match es.toList.find? (·.key.isStr z) with | some e => some (some e.val) | none => if es.toList.any (·.refKey) then none else some none) = _
  rw [h1]
  show (if es.toList.any (·.refKey) = true then none else some none) = _
  rw [h2]
  rfl
def kiAre (k : Str) (i : Int) : List Value → Bool
  | [.str x _, .int j _] => decide (x = k) && decide (j = i)
  | _ => false
theorem written_ki {K : PySem.W.Frag} {a : Addr} {k : Str} {i : Int} {oc : Value} {od : Option Addr} {its : Array Value} {n : Nat} {sl : Array (Option Value)} (l : K.lookup a = some ⟨oc, od, .seq its n, sl⟩) (c : oc = .type "tuple") (v : kiAre k i its.toList = true) : ∀ H : Hp, SqT K H a [.str k, .int i] := fun H => by
  subst c
  have hl : its.size = its.toList.length := Array.length_toList.symm
  match hits : its.toList, v with
  | [.str x t, .int j t'], v =>
    have v : (decide (x = k) && decide (j = i)) = true := v
    obtain ⟨h1, h2⟩ := fand v
    have h1 := of_decide_eq_true h1
    have h2 := of_decide_eq_true h2
    subst h1
    subst h2
    refine .inr ⟨_, its, n, l, rfl, rfl, ?_, ?_⟩
    · rw [hl, hits]
      exact Nat.le_of_lt (szl (by show 2 ≤ 100000; decide))
    · rw [hits]
      exact .cons ⟨t, rfl⟩ (.cons ⟨t', rfl⟩ .nil)
theorem held_of {P : Program} {w : World} {K : PySem.W.Frag} {mg : Str → Option Value} {base : Heap} {k : Nat} {x : Str} {f : Addr} {sp : Sp} (c : C8.Cal P w K mg base k x sp []) (hm : mg x = some (.ref f)) : Held P w K mg base k f sp := by
  obtain ⟨f', fd, ps, ds, F, hm', kp, b, d⟩ := c.ex
  rw [hm] at hm'
  cases hm'
  cases d
  exact ⟨fd, ps, F, kp, b⟩
def tab (l : List (Addr × Sp)) (f : Addr) : Option Sp := (l.find? fun q => decide (q.1 = f)).map (·.2)
theorem tab_mem : ∀ {l : List (Addr × Sp)}, (l.map (·.1)).Nodup → ∀ {f : Addr} {sp : Sp}, (f, sp) ∈ l → tab l f = some sp
  | q :: l, h, f, sp, m => by
    rw [List.map_cons, List.nodup_cons] at h
    unfold tab
    rw [List.find?_cons]
    rcases List.mem_cons.mp m with e | e
    · rw [← e, show decide ((f, sp).1 = f) = true from decide_eq_true rfl]
      rfl
    · rw [show decide (q.1 = f) = false from decide_eq_false fun z => h.1 (by rw [z]; exact List.mem_map.mpr ⟨_, e, rfl⟩)]
      exact tab_mem h.2 e
theorem tab_of {l : List (Addr × Sp)} {f : Addr} {sp : Sp} (h : tab l f = some sp) : (f, sp) ∈ l := by
  unfold tab at h
  obtain ⟨q, hq, rfl⟩ := Option.map_eq_some_iff.mp h
  have h1 := List.mem_of_find?_eq_some hq
  have h2 := List.find?_some (p := fun q : Addr × Sp => decide (q.1 = f)) hq
  have h2 : q.1 = f := of_decide_eq_true h2
  rw [← h2]
  exact h1
theorem held_up {P : Program} {w : World} {K : PySem.W.Frag} {mg : Str → Option Value} {base : Heap} {j k : Nat} {f : Addr} {sp : Sp} (h : Held P w K mg base j f sp) (hj : j ≤ k) : Held P w K mg base k f sp := by
  obtain ⟨fd, ps, F, kp, b⟩ := h
  exact ⟨fd, ps, F.mono hj, kp, b⟩
theorem met_none {P : Program} {w : World} {K : PySem.W.Frag} {mg : Str → Option Value} {base : Heap} {C : Addr} {m qual : Str} {st : Stmt} {f : Addr} {fd : FuncData} {ps : List Str} {k : Nat} {sp : Sp} (c : Cls K C) (me : Meth K C m f) (F : Fun K m qual st f fd) (b : Binds K fd ps []) (no : ∀ vs H Q E, ¬ sp vs H Q E) : C8.Met P w K mg base k C m sp [] :=
  ⟨f, fd, ps, [], c, me, ⟨fun vs H Q E h => (no _ _ _ _ h).elim, fun A outer s H args us vs Q E hr e0 hb r hsp => (no _ _ _ _ hsp).elim⟩, b, .nil⟩
end Toy

set_option Elab.async false
set_option linter.all false
set_option maxRecDepth 100000
set_option maxHeartbeats 4000000
/-! The last part: what the program's top has left, and the end. -/
namespace Toy
open PySem L2
open PyProof.Rows (envOfC)
theorem all_mk {l : PySem.W.OpenLaw} {w : World} {K : PySem.W.Frag} {h : Heap} {mg : Str → Option Value} {fa : Addr} {f0 f1 f2 f3 f4 f5 f6 f7 f8 f9 f10 f11 f12 f13 f14 f15 f16 f17 f18 f19 f20 f21 f22 f23 f24 f25 f26 f27 f28 f29 f30 f31 f32 f33 f34 f35 f36 f37 f38 f39 f40 f41 f42 : Addr} (X : K.In h) (G : h.Ns mainGlobals mg) (hfa : mg "law" = some (.ref fa))
    {od0 an0 od1 an1 od2 an2 od3 an3 od4 an4 od5 an5 od6 an6 od7 an7 od8 an8 od9 an9 od10 an10 od11 an11 od12 an12 od13 an13 od14 an14 od15 an15 od16 an16 od17 an17 od18 an18 od19 an19 od20 an20 od21 an21 od22 an22 od23 an23 od24 an24 od25 an25 od26 an26 od27 an27 od28 an28 od29 an29 od30 an30 od31 an31 od32 an32 od33 an33 od34 an34 od35 an35 od36 an36 od37 an37 od38 an38 od39 an39 od40 an40 od41 an41 od42 an42 : Option Addr} {sl0 sl1 sl2 sl3 sl4 sl5 sl6 sl7 sl8 sl9 sl10 sl11 sl12 sl13 sl14 sl15 sl16 sl17 sl18 sl19 sl20 sl21 sl22 sl23 sl24 sl25 sl26 sl27 sl28 sl29 sl30 sl31 sl32 sl33 sl34 sl35 sl36 sl37 sl38 sl39 sl40 sl41 sl42 : Array (Option Value)} {oc0 kV0 dc0 pm0 cd0 ct0 oc1 kV1 dc1 pm1 cd1 ct1 oc2 kV2 dc2 pm2 cd2 ct2 oc3 kV3 dc3 pm3 cd3 ct3 oc4 kV4 dc4 pm4 cd4 ct4 oc5 kV5 dc5 pm5 cd5 ct5 oc6 kV6 dc6 pm6 cd6 ct6 oc7 kV7 dc7 pm7 cd7 ct7 oc8 kV8 dc8 pm8 cd8 ct8 oc9 kV9 dc9 pm9 cd9 ct9 oc10 kV10 dc10 pm10 cd10 ct10 oc11 kV11 dc11 pm11 cd11 ct11 oc12 kV12 dc12 pm12 cd12 ct12 oc13 kV13 dc13 pm13 cd13 ct13 oc14 kV14 dc14 pm14 cd14 ct14 oc15 kV15 dc15 pm15 cd15 ct15 oc16 kV16 dc16 pm16 cd16 ct16 oc17 kV17 dc17 pm17 cd17 ct17 oc18 kV18 dc18 pm18 cd18 ct18 oc19 kV19 dc19 pm19 cd19 ct19 oc20 kV20 dc20 pm20 cd20 ct20 oc21 kV21 dc21 pm21 cd21 ct21 oc22 kV22 dc22 pm22 cd22 ct22 oc23 kV23 dc23 pm23 cd23 ct23 oc24 kV24 dc24 pm24 cd24 ct24 oc25 kV25 dc25 pm25 cd25 ct25 oc26 kV26 dc26 pm26 cd26 ct26 oc27 kV27 dc27 pm27 cd27 ct27 oc28 kV28 dc28 pm28 cd28 ct28 oc29 kV29 dc29 pm29 cd29 ct29 oc30 kV30 dc30 pm30 cd30 ct30 oc31 kV31 dc31 pm31 cd31 ct31 oc32 kV32 dc32 pm32 cd32 ct32 oc33 kV33 dc33 pm33 cd33 ct33 oc34 kV34 dc34 pm34 cd34 ct34 oc35 kV35 dc35 pm35 cd35 ct35 oc36 kV36 dc36 pm36 cd36 ct36 oc37 kV37 dc37 pm37 cd37 ct37 oc38 kV38 dc38 pm38 cd38 ct38 oc39 kV39 dc39 pm39 cd39 ct39 oc40 kV40 dc40 pm40 cd40 ct40 oc41 kV41 dc41 pm41 cd41 ct41 oc42 kV42 dc42 pm42 cd42 ct42 : Value}
    {aEV aMT CM CH CO pStop : Addr} {esEV esMT : Array DictEntry} {nEV nMT : Nat} {tk1 tk2 : Tok} {restStop : List Value} {aST : Addr} {nST : Nat} {ocST : Value} {odST : Option Addr} {itST : Array Value} {slST : Array (Option Value)} {aCO : Addr} {nCO : Nat} {ocCO : Value} {odCO : Option Addr} {itCO : Array Value} {slCO : Array (Option Value)} {aSP : Addr} {nSP : Nat} {ocSP : Value} {odSP : Option Addr} {itSP : Array Value} {slSP : Array (Option Value)} {aBZ : Addr} {nBZ : Nat} {ocBZ : Value} {odBZ : Option Addr} {itBZ : Array Value} {slBZ : Array (Option Value)} {aOV : Addr} {nOV : Nat} {ocOV : Value} {odOV : Option Addr} {itOV : Array Value} {slOV : Array (Option Value)} {aPL aNO : Addr} {esPL : Array DictEntry} {nPL : Nat} {pacon : Addr} {pncon : Nat} {pocon : Value} {pdcon : Option Addr} {picon : Array Value} {pscon : Array (Option Value)} {papart : Addr} {pnpart : Nat} {popart : Value} {pdpart : Option Addr} {pipart : Array Value} {pspart : Array (Option Value)} {palater : Addr} {pnlater : Nat} {polater : Value} {pdlater : Option Addr} {pilater : Array Value} {pslater : Array (Option Value)} {paon : Addr} {pnon : Nat} {poon : Value} {pdon : Option Addr} {pion : Array Value} {pson : Array (Option Value)} {pahead : Addr} {pnhead : Nat} {pohead : Value} {pdhead : Option Addr} {pihead : Array Value} {pshead : Array (Option Value)} {paupdate : Addr} {pnupdate : Nat} {poupdate : Value} {pdupdate : Option Addr} {piupdate : Array Value} {psupdate : Array (Option Value)} {paapply : Addr} {pnapply : Nat} {poapply : Value} {pdapply : Option Addr} {piapply : Array Value} {psapply : Array (Option Value)} {pacase : Addr} {pncase : Nat} {pocase : Value} {pdcase : Option Addr} {picase : Array Value} {pscase : Array (Option Value)} {papick : Addr} {pnpick : Nat} {popick : Value} {pdpick : Option Addr} {pipick : Array Value} {pspick : Array (Option Value)} {paseq : Addr} {pnseq : Nat} {poseq : Value} {pdseq : Option Addr} {piseq : Array Value} {psseq : Array (Option Value)} {paright : Addr} {pnright : Nat} {poright : Value} {pdright : Option Addr} {piright : Array Value} {psright : Array (Option Value)} {paeval : Addr} {pneval : Nat} {poeval : Value} {pdeval : Option Addr} {pieval : Array Value} {pseval : Array (Option Value)} {pavalue : Addr} {pnvalue : Nat} {povalue : Value} {pdvalue : Option Addr} {pivalue : Array Value} {psvalue : Array (Option Value)} {paenter : Addr} {pnenter : Nat} {poenter : Value} {pdenter : Option Addr} {pienter : Array Value} {psenter : Array (Option Value)} {pnNO : Nat} {poNO : Value} {pdNO : Option Addr} {piNO : Array Value} {psNO : Array (Option Value)} {gMInit : Addr} {modMInit manMInit : Option Addr} {mslMInit : Array (Option Value)} {mocMInit mkVMInit mdcMInit mpmMInit mcdMInit mctMInit : Value} {gStep : Addr} {modStep manStep : Option Addr} {mslStep : Array (Option Value)} {mocStep mkVStep mdcStep mpmStep mcdStep mctStep : Value} {gCollect : Addr} {modCollect manCollect : Option Addr} {mslCollect : Array (Option Value)} {mocCollect mkVCollect mdcCollect mpmCollect mcdCollect mctCollect : Value} {gHasRoom : Addr} {modHasRoom manHasRoom : Option Addr} {mslHasRoom : Array (Option Value)} {mocHasRoom mkVHasRoom mdcHasRoom mpmHasRoom mcdHasRoom mctHasRoom : Value} {gHInit : Addr} {modHInit manHInit : Option Addr} {mslHInit : Array (Option Value)} {mocHInit mkVHInit mdcHInit mpmHInit mcdHInit mctHInit : Value} {gMake : Addr} {modMake manMake : Option Addr} {mslMake : Array (Option Value)} {mocMake mkVMake mdcMake mpmMake mcdMake mctMake : Value} {gCell : Addr} {modCell manCell : Option Addr} {mslCell : Array (Option Value)} {mocCell mkVCell mdcCell mpmCell mcdCell mctCell : Value} {gPut : Addr} {modPut manPut : Option Addr} {mslPut : Array (Option Value)} {mocPut mkVPut mdcPut mpmPut mcdPut mctPut : Value} {gFits : Addr} {modFits manFits : Option Addr} {mslFits : Array (Option Value)} {mocFits mkVFits mdcFits mpmFits mcdFits mctFits : Value} {gRenew : Addr} {modRenew manRenew : Option Addr} {mslRenew : Array (Option Value)} {mocRenew mkVRenew mdcRenew mpmRenew mcdRenew mctRenew : Value} {gCInit : Addr} {modCInit manCInit : Option Addr} {mslCInit : Array (Option Value)} {mocCInit mkVCInit mdcCInit mpmCInit mcdCInit mctCInit : Value} {gNewWord : Addr} {modNewWord manNewWord : Option Addr} {mslNewWord : Array (Option Value)} {mocNewWord mkVNewWord mdcNewWord mpmNewWord mcdNewWord mctNewWord : Value} {gRenewed : Addr} {modRenewed manRenewed : Option Addr} {mslRenewed : Array (Option Value)} {mocRenewed mkVRenewed mdcRenewed mpmRenewed mcdRenewed mctRenewed : Value} {gStopped : Addr} {modStopped manStopped : Option Addr} {mslStopped : Array (Option Value)} {mocStopped mkVStopped mdcStopped mpmStopped mcdStopped mctStopped : Value} 
    (a0 : PySem.W.nsIn K mainGlobals "enter" = some (some (.ref f0)))
    (l0 : K.lookup f0 = some ⟨oc0, od0, .func (PySem.W.fnOf "enter" "enter" (defArgs sEnter) (defBody sEnter) (defScope sEnter) .none kV0 dc0 pm0 an0 cd0 ct0), sl0⟩)
    (c0 : PySem.W.codeIn K cd0 "enter" = true)
    (k0 : PySem.W.keepIn K (.ref f0) = true)
    (a1 : PySem.W.nsIn K mainGlobals "size_of" = some (some (.ref f1)))
    (l1 : K.lookup f1 = some ⟨oc1, od1, .func (PySem.W.fnOf "size_of" "size_of" (defArgs sSize) (defBody sSize) (defScope sSize) .none kV1 dc1 pm1 an1 cd1 ct1), sl1⟩)
    (c1 : PySem.W.codeIn K cd1 "size_of" = true)
    (k1 : PySem.W.keepIn K (.ref f1) = true)
    (a2 : PySem.W.nsIn K mainGlobals "word_of" = some (some (.ref f2)))
    (l2 : K.lookup f2 = some ⟨oc2, od2, .func (PySem.W.fnOf "word_of" "word_of" (defArgs sWordOf) (defBody sWordOf) (defScope sWordOf) .none kV2 dc2 pm2 an2 cd2 ct2), sl2⟩)
    (c2 : PySem.W.codeIn K cd2 "word_of" = true)
    (k2 : PySem.W.keepIn K (.ref f2) = true)
    (a3 : PySem.W.nsIn K mainGlobals "size_to_evaluate" = some (some (.ref f3)))
    (l3 : K.lookup f3 = some ⟨oc3, od3, .func (PySem.W.fnOf "size_to_evaluate" "size_to_evaluate" (defArgs sSizeE) (defBody sSizeE) (defScope sSizeE) .none kV3 dc3 pm3 an3 cd3 ct3), sl3⟩)
    (c3 : PySem.W.codeIn K cd3 "size_to_evaluate" = true)
    (k3 : PySem.W.keepIn K (.ref f3) = true)
    (a4 : PySem.W.nsIn K mainGlobals "evaluate" = some (some (.ref f4)))
    (l4 : K.lookup f4 = some ⟨oc4, od4, .func (PySem.W.fnOf "evaluate" "evaluate" (defArgs sEvaluate) (defBody sEvaluate) (defScope sEvaluate) .none kV4 dc4 pm4 an4 cd4 ct4), sl4⟩)
    (c4 : PySem.W.codeIn K cd4 "evaluate" = true)
    (k4 : PySem.W.keepIn K (.ref f4) = true)
    (a5 : PySem.W.nsIn K mainGlobals "_evaluate_give" = some (some (.ref f5)))
    (l5 : K.lookup f5 = some ⟨oc5, od5, .func (PySem.W.fnOf "_evaluate_give" "_evaluate_give" (defArgs sEvGive) (defBody sEvGive) (defScope sEvGive) .none kV5 dc5 pm5 an5 cd5 ct5), sl5⟩)
    (c5 : PySem.W.codeIn K cd5 "_evaluate_give" = true)
    (k5 : PySem.W.keepIn K (.ref f5) = true)
    (a6 : PySem.W.nsIn K mainGlobals "_evaluate_call" = some (some (.ref f6)))
    (l6 : K.lookup f6 = some ⟨oc6, od6, .func (PySem.W.fnOf "_evaluate_call" "_evaluate_call" (defArgs sEvCall) (defBody sEvCall) (defScope sEvCall) .none kV6 dc6 pm6 an6 cd6 ct6), sl6⟩)
    (c6 : PySem.W.codeIn K cd6 "_evaluate_call" = true)
    (k6 : PySem.W.keepIn K (.ref f6) = true)
    (a7 : PySem.W.nsIn K mainGlobals "_evaluate_con" = some (some (.ref f7)))
    (l7 : K.lookup f7 = some ⟨oc7, od7, .func (PySem.W.fnOf "_evaluate_con" "_evaluate_con" (defArgs sEvCon) (defBody sEvCon) (defScope sEvCon) .none kV7 dc7 pm7 an7 cd7 ct7), sl7⟩)
    (c7 : PySem.W.codeIn K cd7 "_evaluate_con" = true)
    (k7 : PySem.W.keepIn K (.ref f7) = true)
    (a8 : PySem.W.nsIn K mainGlobals "_evaluate_prim" = some (some (.ref f8)))
    (l8 : K.lookup f8 = some ⟨oc8, od8, .func (PySem.W.fnOf "_evaluate_prim" "_evaluate_prim" (defArgs sEvPrim) (defBody sEvPrim) (defScope sEvPrim) .none kV8 dc8 pm8 an8 cd8 ct8), sl8⟩)
    (c8 : PySem.W.codeIn K cd8 "_evaluate_prim" = true)
    (k8 : PySem.W.keepIn K (.ref f8) = true)
    (a9 : PySem.W.nsIn K mainGlobals "_evaluate_let" = some (some (.ref f9)))
    (l9 : K.lookup f9 = some ⟨oc9, od9, .func (PySem.W.fnOf "_evaluate_let" "_evaluate_let" (defArgs sEvLet) (defBody sEvLet) (defScope sEvLet) .none kV9 dc9 pm9 an9 cd9 ct9), sl9⟩)
    (c9 : PySem.W.codeIn K cd9 "_evaluate_let" = true)
    (k9 : PySem.W.keepIn K (.ref f9) = true)
    (a10 : PySem.W.nsIn K mainGlobals "_evaluate_seq" = some (some (.ref f10)))
    (l10 : K.lookup f10 = some ⟨oc10, od10, .func (PySem.W.fnOf "_evaluate_seq" "_evaluate_seq" (defArgs sEvSeq) (defBody sEvSeq) (defScope sEvSeq) .none kV10 dc10 pm10 an10 cd10 ct10), sl10⟩)
    (c10 : PySem.W.codeIn K cd10 "_evaluate_seq" = true)
    (k10 : PySem.W.keepIn K (.ref f10) = true)
    (a11 : PySem.W.nsIn K mainGlobals "_evaluate_choice" = some (some (.ref f11)))
    (l11 : K.lookup f11 = some ⟨oc11, od11, .func (PySem.W.fnOf "_evaluate_choice" "_evaluate_choice" (defArgs sEvChoice) (defBody sEvChoice) (defScope sEvChoice) .none kV11 dc11 pm11 an11 cd11 ct11), sl11⟩)
    (c11 : PySem.W.codeIn K cd11 "_evaluate_choice" = true)
    (k11 : PySem.W.keepIn K (.ref f11) = true)
    (a12 : PySem.W.nsIn K mainGlobals "_evaluate_note" = some (some (.ref f12)))
    (l12 : K.lookup f12 = some ⟨oc12, od12, .func (PySem.W.fnOf "_evaluate_note" "_evaluate_note" (defArgs sEvNote) (defBody sEvNote) (defScope sEvNote) .none kV12 dc12 pm12 an12 cd12 ct12), sl12⟩)
    (c12 : PySem.W.codeIn K cd12 "_evaluate_note" = true)
    (k12 : PySem.W.keepIn K (.ref f12) = true)
    (a13 : PySem.W.nsIn K mainGlobals "_words_of" = some (some (.ref f13)))
    (l13 : K.lookup f13 = some ⟨oc13, od13, .func (PySem.W.fnOf "_words_of" "_words_of" (defArgs sWordsOf) (defBody sWordsOf) (defScope sWordsOf) .none kV13 dc13 pm13 an13 cd13 ct13), sl13⟩)
    (c13 : PySem.W.codeIn K cd13 "_words_of" = true)
    (k13 : PySem.W.keepIn K (.ref f13) = true)
    (a14 : PySem.W.nsIn K mainGlobals "_size_of_member" = some (some (.ref f14)))
    (l14 : K.lookup f14 = some ⟨oc14, od14, .func (PySem.W.fnOf "_size_of_member" "_size_of_member" (defArgs sSizeM) (defBody sSizeM) (defScope sSizeM) .none kV14 dc14 pm14 an14 cd14 ct14), sl14⟩)
    (c14 : PySem.W.codeIn K cd14 "_size_of_member" = true)
    (k14 : PySem.W.keepIn K (.ref f14) = true)
    (a15 : PySem.W.nsIn K mainGlobals "_member_cell" = some (some (.ref f15)))
    (l15 : K.lookup f15 = some ⟨oc15, od15, .func (PySem.W.fnOf "_member_cell" "_member_cell" (defArgs sMemCell) (defBody sMemCell) (defScope sMemCell) .none kV15 dc15 pm15 an15 cd15 ct15), sl15⟩)
    (c15 : PySem.W.codeIn K cd15 "_member_cell" = true)
    (k15 : PySem.W.keepIn K (.ref f15) = true)
    (a16 : PySem.W.nsIn K mainGlobals "prim_result" = some (some (.ref f16)))
    (l16 : K.lookup f16 = some ⟨oc16, od16, .func (PySem.W.fnOf "prim_result" "prim_result" (defArgs sPrimRes) (defBody sPrimRes) (defScope sPrimRes) .none kV16 dc16 pm16 an16 cd16 ct16), sl16⟩)
    (c16 : PySem.W.codeIn K cd16 "prim_result" = true)
    (k16 : PySem.W.keepIn K (.ref f16) = true)
    (a17 : PySem.W.nsIn K mainGlobals "_holds" = some (some (.ref f17)))
    (l17 : K.lookup f17 = some ⟨oc17, od17, .func (PySem.W.fnOf "_holds" "_holds" (defArgs sHolds) (defBody sHolds) (defScope sHolds) .none kV17 dc17 pm17 an17 cd17 ct17), sl17⟩)
    (c17 : PySem.W.codeIn K cd17 "_holds" = true)
    (k17 : PySem.W.keepIn K (.ref f17) = true)
    (a18 : PySem.W.nsIn K mainGlobals "_worked_out" = some (some (.ref f18)))
    (l18 : K.lookup f18 = some ⟨oc18, od18, .func (PySem.W.fnOf "_worked_out" "_worked_out" (defArgs sWorked) (defBody sWorked) (defScope sWorked) .none kV18 dc18 pm18 an18 cd18 ct18), sl18⟩)
    (c18 : PySem.W.codeIn K cd18 "_worked_out" = true)
    (k18 : PySem.W.keepIn K (.ref f18) = true)
    (a19 : PySem.W.nsIn K mainGlobals "size_to_meet" = some (some (.ref f19)))
    (l19 : K.lookup f19 = some ⟨oc19, od19, .func (PySem.W.fnOf "size_to_meet" "size_to_meet" (defArgs sSizeMt) (defBody sSizeMt) (defScope sSizeMt) .none kV19 dc19 pm19 an19 cd19 ct19), sl19⟩)
    (c19 : PySem.W.codeIn K cd19 "size_to_meet" = true)
    (k19 : PySem.W.keepIn K (.ref f19) = true)
    (a20 : PySem.W.nsIn K mainGlobals "meet" = some (some (.ref f20)))
    (l20 : K.lookup f20 = some ⟨oc20, od20, .func (PySem.W.fnOf "meet" "meet" (defArgs sMeet) (defBody sMeet) (defScope sMeet) .none kV20 dc20 pm20 an20 cd20 ct20), sl20⟩)
    (c20 : PySem.W.codeIn K cd20 "meet" = true)
    (k20 : PySem.W.keepIn K (.ref f20) = true)
    (a21 : PySem.W.nsIn K mainGlobals "_cell_of" = some (some (.ref f21)))
    (l21 : K.lookup f21 = some ⟨oc21, od21, .func (PySem.W.fnOf "_cell_of" "_cell_of" (defArgs sCellOf) (defBody sCellOf) (defScope sCellOf) .none kV21 dc21 pm21 an21 cd21 ct21), sl21⟩)
    (c21 : PySem.W.codeIn K cd21 "_cell_of" = true)
    (k21 : PySem.W.keepIn K (.ref f21) = true)
    (a22 : PySem.W.nsIn K mainGlobals "_is_partial" = some (some (.ref f22)))
    (l22 : K.lookup f22 = some ⟨oc22, od22, .func (PySem.W.fnOf "_is_partial" "_is_partial" (defArgs sIsPart) (defBody sIsPart) (defScope sIsPart) .none kV22 dc22 pm22 an22 cd22 ct22), sl22⟩)
    (c22 : PySem.W.codeIn K cd22 "_is_partial" = true)
    (k22 : PySem.W.keepIn K (.ref f22) = true)
    (a23 : PySem.W.nsIn K mainGlobals "_fault" = some (some (.ref f23)))
    (l23 : K.lookup f23 = some ⟨oc23, od23, .func (PySem.W.fnOf "_fault" "_fault" (defArgs sFault) (defBody sFault) (defScope sFault) .none kV23 dc23 pm23 an23 cd23 ct23), sl23⟩)
    (c23 : PySem.W.codeIn K cd23 "_fault" = true)
    (k23 : PySem.W.keepIn K (.ref f23) = true)
    (a24 : PySem.W.nsIn K mainGlobals "_meet_show" = some (some (.ref f24)))
    (l24 : K.lookup f24 = some ⟨oc24, od24, .func (PySem.W.fnOf "_meet_show" "_meet_show" (defArgs sMtShow) (defBody sMtShow) (defScope sMtShow) .none kV24 dc24 pm24 an24 cd24 ct24), sl24⟩)
    (c24 : PySem.W.codeIn K cd24 "_meet_show" = true)
    (k24 : PySem.W.keepIn K (.ref f24) = true)
    (a25 : PySem.W.nsIn K mainGlobals "_meet_head" = some (some (.ref f25)))
    (l25 : K.lookup f25 = some ⟨oc25, od25, .func (PySem.W.fnOf "_meet_head" "_meet_head" (defArgs sMtHead) (defBody sMtHead) (defScope sMtHead) .none kV25 dc25 pm25 an25 cd25 ct25), sl25⟩)
    (c25 : PySem.W.codeIn K cd25 "_meet_head" = true)
    (k25 : PySem.W.keepIn K (.ref f25) = true)
    (a26 : PySem.W.nsIn K mainGlobals "_meet_update" = some (some (.ref f26)))
    (l26 : K.lookup f26 = some ⟨oc26, od26, .func (PySem.W.fnOf "_meet_update" "_meet_update" (defArgs sMtUpd) (defBody sMtUpd) (defScope sMtUpd) .none kV26 dc26 pm26 an26 cd26 ct26), sl26⟩)
    (c26 : PySem.W.codeIn K cd26 "_meet_update" = true)
    (k26 : PySem.W.keepIn K (.ref f26) = true)
    (a27 : PySem.W.nsIn K mainGlobals "_meet_apply" = some (some (.ref f27)))
    (l27 : K.lookup f27 = some ⟨oc27, od27, .func (PySem.W.fnOf "_meet_apply" "_meet_apply" (defArgs sMtApply) (defBody sMtApply) (defScope sMtApply) .none kV27 dc27 pm27 an27 cd27 ct27), sl27⟩)
    (c27 : PySem.W.codeIn K cd27 "_meet_apply" = true)
    (k27 : PySem.W.keepIn K (.ref f27) = true)
    (a28 : PySem.W.nsIn K mainGlobals "_meet_case" = some (some (.ref f28)))
    (l28 : K.lookup f28 = some ⟨oc28, od28, .func (PySem.W.fnOf "_meet_case" "_meet_case" (defArgs sMtCase) (defBody sMtCase) (defScope sMtCase) .none kV28 dc28 pm28 an28 cd28 ct28), sl28⟩)
    (c28 : PySem.W.codeIn K cd28 "_meet_case" = true)
    (k28 : PySem.W.keepIn K (.ref f28) = true)
    (a29 : PySem.W.nsIn K mainGlobals "_meet_pick" = some (some (.ref f29)))
    (l29 : K.lookup f29 = some ⟨oc29, od29, .func (PySem.W.fnOf "_meet_pick" "_meet_pick" (defArgs sMtPick) (defBody sMtPick) (defScope sMtPick) .none kV29 dc29 pm29 an29 cd29 ct29), sl29⟩)
    (c29 : PySem.W.codeIn K cd29 "_meet_pick" = true)
    (k29 : PySem.W.keepIn K (.ref f29) = true)
    (a30 : PySem.W.nsIn K mainGlobals "_choose_default" = some (some (.ref f30)))
    (l30 : K.lookup f30 = some ⟨oc30, od30, .func (PySem.W.fnOf "_choose_default" "_choose_default" (defArgs sChDef) (defBody sChDef) (defScope sChDef) .none kV30 dc30 pm30 an30 cd30 ct30), sl30⟩)
    (c30 : PySem.W.codeIn K cd30 "_choose_default" = true)
    (k30 : PySem.W.keepIn K (.ref f30) = true)
    (a31 : PySem.W.nsIn K mainGlobals "_meet_seq" = some (some (.ref f31)))
    (l31 : K.lookup f31 = some ⟨oc31, od31, .func (PySem.W.fnOf "_meet_seq" "_meet_seq" (defArgs sMtSeq) (defBody sMtSeq) (defScope sMtSeq) .none kV31 dc31 pm31 an31 cd31 ct31), sl31⟩)
    (c31 : PySem.W.codeIn K cd31 "_meet_seq" = true)
    (k31 : PySem.W.keepIn K (.ref f31) = true)
    (a32 : PySem.W.nsIn K mainGlobals "_meet_right" = some (some (.ref f32)))
    (l32 : K.lookup f32 = some ⟨oc32, od32, .func (PySem.W.fnOf "_meet_right" "_meet_right" (defArgs sMtRight) (defBody sMtRight) (defScope sMtRight) .none kV32 dc32 pm32 an32 cd32 ct32), sl32⟩)
    (c32 : PySem.W.codeIn K cd32 "_meet_right" = true)
    (k32 : PySem.W.keepIn K (.ref f32) = true)
    (a33 : PySem.W.nsIn K mainGlobals "_meet_prim" = some (some (.ref f33)))
    (l33 : K.lookup f33 = some ⟨oc33, od33, .func (PySem.W.fnOf "_meet_prim" "_meet_prim" (defArgs sMtPrim) (defBody sMtPrim) (defScope sMtPrim) .none kV33 dc33 pm33 an33 cd33 ct33), sl33⟩)
    (c33 : PySem.W.codeIn K cd33 "_meet_prim" = true)
    (k33 : PySem.W.keepIn K (.ref f33) = true)
    (a34 : PySem.W.nsIn K mainGlobals "size_needed" = some (some (.ref f34)))
    (l34 : K.lookup f34 = some ⟨oc34, od34, .func (PySem.W.fnOf "size_needed" "size_needed" (defArgs sSizeN) (defBody sSizeN) (defScope sSizeN) .none kV34 dc34 pm34 an34 cd34 ct34), sl34⟩)
    (c34 : PySem.W.codeIn K cd34 "size_needed" = true)
    (k34 : PySem.W.keepIn K (.ref f34) = true)
    (a35 : PySem.W.nsIn K mainGlobals "run_code" = some (some (.ref f35)))
    (l35 : K.lookup f35 = some ⟨oc35, od35, .func (PySem.W.fnOf "run_code" "run_code" (defArgs sRunCode) (defBody sRunCode) (defScope sRunCode) .none kV35 dc35 pm35 an35 cd35 ct35), sl35⟩)
    (c35 : PySem.W.codeIn K cd35 "run_code" = true)
    (k35 : PySem.W.keepIn K (.ref f35) = true)
    (a36 : PySem.W.nsIn K mainGlobals "_law_draws" = some (some (.ref f36)))
    (l36 : K.lookup f36 = some ⟨oc36, od36, .func (PySem.W.fnOf "_law_draws" "_law_draws" (defArgs sDraws) (defBody sDraws) (defScope sDraws) .none kV36 dc36 pm36 an36 cd36 ct36), sl36⟩)
    (c36 : PySem.W.codeIn K cd36 "_law_draws" = true)
    (k36 : PySem.W.keepIn K (.ref f36) = true)
    (a37 : PySem.W.nsIn K mainGlobals "_law_next" = some (some (.ref f37)))
    (l37 : K.lookup f37 = some ⟨oc37, od37, .func (PySem.W.fnOf "_law_next" "_law_next" (defArgs sNext) (defBody sNext) (defScope sNext) .none kV37 dc37 pm37 an37 cd37 ct37), sl37⟩)
    (c37 : PySem.W.codeIn K cd37 "_law_next" = true)
    (k37 : PySem.W.keepIn K (.ref f37) = true)
    (a38 : PySem.W.nsIn K mainGlobals "_law_needs" = some (some (.ref f38)))
    (l38 : K.lookup f38 = some ⟨oc38, od38, .func (PySem.W.fnOf "_law_needs" "_law_needs" (defArgs sLNeeds) (defBody sLNeeds) (defScope sLNeeds) .none kV38 dc38 pm38 an38 cd38 ct38), sl38⟩)
    (c38 : PySem.W.codeIn K cd38 "_law_needs" = true)
    (k38 : PySem.W.keepIn K (.ref f38) = true)
    (a39 : PySem.W.nsIn K mainGlobals "_words_in" = some (some (.ref f39)))
    (l39 : K.lookup f39 = some ⟨oc39, od39, .func (PySem.W.fnOf "_words_in" "_words_in" (defArgs sWordsIn) (defBody sWordsIn) (defScope sWordsIn) .none kV39 dc39 pm39 an39 cd39 ct39), sl39⟩)
    (c39 : PySem.W.codeIn K cd39 "_words_in" = true)
    (k39 : PySem.W.keepIn K (.ref f39) = true)
    (a40 : PySem.W.nsIn K mainGlobals "roots" = some (some (.ref f40)))
    (l40 : K.lookup f40 = some ⟨oc40, od40, .func (PySem.W.fnOf "roots" "roots" (defArgs sRoots) (defBody sRoots) (defScope sRoots) .none kV40 dc40 pm40 an40 cd40 ct40), sl40⟩)
    (c40 : PySem.W.codeIn K cd40 "roots" = true)
    (k40 : PySem.W.keepIn K (.ref f40) = true)
    (a41 : PySem.W.nsIn K mainGlobals "collect_cells" = some (some (.ref f41)))
    (l41 : K.lookup f41 = some ⟨oc41, od41, .func (PySem.W.fnOf "collect_cells" "collect_cells" (defArgs sCollectCells) (defBody sCollectCells) (defScope sCollectCells) .none kV41 dc41 pm41 an41 cd41 ct41), sl41⟩)
    (c41 : PySem.W.codeIn K cd41 "collect_cells" = true)
    (k41 : PySem.W.keepIn K (.ref f41) = true)
    (a42 : PySem.W.nsIn K mainGlobals "law" = some (some (.ref f42)))
    (l42 : K.lookup f42 = some ⟨oc42, od42, .func (PySem.W.fnOf "law" "law" (defArgs sLaw) (defBody sLaw) (defScope sLaw) .none kV42 dc42 pm42 an42 cd42 ct42), sl42⟩)
    (c42 : PySem.W.codeIn K cd42 "law" = true)
    (k42 : PySem.W.keepIn K (.ref f42) = true)
    (cst1 : PySem.W.nsIn K mainGlobals "LARGEST_NUMBER" = some (some (.int 1000000000000000 tk1)))
    (cst2 : PySem.W.nsIn K mainGlobals "LEAST_SIZE_OF_DELAYED" = some (some (.int 2 tk2)))
    (gtST : PySem.W.nsIn K mainGlobals "STUCK" = some (some (.ref aST)))
    (ltST : K.lookup aST = some ⟨ocST, odST, .seq itST nST, slST⟩)
    (ctST : ocST = .type "tuple")
    (vtST : strsAre ["stuck"] itST.toList = true)
    (gtCO : PySem.W.nsIn K mainGlobals "COMPARISONS" = some (some (.ref aCO)))
    (ltCO : K.lookup aCO = some ⟨ocCO, odCO, .seq itCO nCO, slCO⟩)
    (ctCO : ocCO = .type "tuple")
    (vtCO : strsAre ineqs itCO.toList = true)
    (gtSP : PySem.W.nsIn K mainGlobals "STOPPED" = some (some (.ref aSP)))
    (ltSP : K.lookup aSP = some ⟨ocSP, odSP, .seq itSP nSP, slSP⟩)
    (ctSP : ocSP = .type "tuple")
    (vtSP : strsAre stops itSP.toList = true)
    (gtBZ : PySem.W.nsIn K mainGlobals "BY_ZERO" = some (some (.ref aBZ)))
    (ltBZ : K.lookup aBZ = some ⟨ocBZ, odBZ, .seq itBZ nBZ, slBZ⟩)
    (ctBZ : ocBZ = .type "tuple")
    (vtBZ : strsAre ["fault", "division by zero"] itBZ.toList = true)
    (gtOV : PySem.W.nsIn K mainGlobals "OVERFLOW" = some (some (.ref aOV)))
    (ltOV : K.lookup aOV = some ⟨ocOV, odOV, .seq itOV nOV, slOV⟩)
    (ctOV : ocOV = .type "tuple")
    (vtOV : strsAre ["fault", "overflow"] itOV.toList = true)
    (gdEV : PySem.W.nsIn K mainGlobals "EVALUATIONS" = some (some (.ref aEV)))
    (ldEV : K.lookup aEV = some ⟨.type "dict", none, .dict esEV nEV, #[]⟩)
    (kdEV : PySem.W.KeysLit w.params esEV.toList)
    (sdEV : (aEV == sysModules) = false)
    (wEVgive : PySem.W.nsIn K aEV "give" = some (some (.ref f5)))
    (wEVcall : PySem.W.nsIn K aEV "call" = some (some (.ref f6)))
    (wEVcon : PySem.W.nsIn K aEV "con" = some (some (.ref f7)))
    (wEVprim : PySem.W.nsIn K aEV "prim" = some (some (.ref f8)))
    (wEVlet : PySem.W.nsIn K aEV "let" = some (some (.ref f9)))
    (wEVseq : PySem.W.nsIn K aEV "seq" = some (some (.ref f10)))
    (wEVcase : PySem.W.nsIn K aEV "case" = some (some (.ref f11)))
    (wEVpick : PySem.W.nsIn K aEV "pick" = some (some (.ref f11)))
    (wEVnote : PySem.W.nsIn K aEV "note" = some (some (.ref f12)))
    (gdMT : PySem.W.nsIn K mainGlobals "MEETINGS" = some (some (.ref aMT)))
    (ldMT : K.lookup aMT = some ⟨.type "dict", none, .dict esMT nMT, #[]⟩)
    (kdMT : PySem.W.KeysLit w.params esMT.toList)
    (sdMT : (aMT == sysModules) = false)
    (wMTshow : PySem.W.nsIn K aMT "show" = some (some (.ref f24)))
    (wMThead : PySem.W.nsIn K aMT "head" = some (some (.ref f25)))
    (wMTupdate : PySem.W.nsIn K aMT "update" = some (some (.ref f26)))
    (wMTapply : PySem.W.nsIn K aMT "apply" = some (some (.ref f27)))
    (wMTcase : PySem.W.nsIn K aMT "case" = some (some (.ref f28)))
    (wMTpick : PySem.W.nsIn K aMT "pick" = some (some (.ref f29)))
    (wMTseq : PySem.W.nsIn K aMT "seq" = some (some (.ref f31)))
    (wMTright : PySem.W.nsIn K aMT "right" = some (some (.ref f32)))
    (wMTprim : PySem.W.nsIn K aMT "prim" = some (some (.ref f33)))
    (ndE : ([f5, f6, f7, f8, f9, f10, f11, f12] : List Addr).Nodup)
    (ndM : ([f24, f25, f26, f27, f28, f29, f31, f32, f33] : List Addr).Nodup)
    (gdPL : PySem.W.nsIn K mainGlobals "PLACES" = some (some (.ref aPL)))
    (ldPL : K.lookup aPL = some ⟨.type "dict", none, .dict esPL nPL, #[]⟩)
    (kdPL : PySem.W.KeysLit w.params esPL.toList)
    (sdPL : (aPL == sysModules) = false)
    (vdPL : keysAre esPL.toList (placesL.map (·.1)) = true)
    (gtNO : PySem.W.nsIn K mainGlobals "NO_PLACE" = some (some (.ref aNO)))
    (pwcon : PySem.W.nsIn K aPL "con" = some (some (.ref pacon)))
    (plcon : K.lookup pacon = some ⟨pocon, pdcon, .seq picon pncon, pscon⟩)
    (ptcon : pocon = .type "tuple")
    (pvcon : kiAre "words" 2 picon.toList = true)
    (pwpart : PySem.W.nsIn K aPL "part" = some (some (.ref papart)))
    (plpart : K.lookup papart = some ⟨popart, pdpart, .seq pipart pnpart, pspart⟩)
    (ptpart : popart = .type "tuple")
    (pvpart : kiAre "words" 2 pipart.toList = true)
    (pwlater : PySem.W.nsIn K aPL "later" = some (some (.ref palater)))
    (pllater : K.lookup palater = some ⟨polater, pdlater, .seq pilater pnlater, pslater⟩)
    (ptlater : polater = .type "tuple")
    (pvlater : kiAre "words" 2 pilater.toList = true)
    (pwon : PySem.W.nsIn K aPL "on" = some (some (.ref paon)))
    (plon : K.lookup paon = some ⟨poon, pdon, .seq pion pnon, pson⟩)
    (pton : poon = .type "tuple")
    (pvon : kiAre "word" 1 pion.toList = true)
    (pwhead : PySem.W.nsIn K aPL "head" = some (some (.ref pahead)))
    (plhead : K.lookup pahead = some ⟨pohead, pdhead, .seq pihead pnhead, pshead⟩)
    (pthead : pohead = .type "tuple")
    (pvhead : kiAre "word" 1 pihead.toList = true)
    (pwupdate : PySem.W.nsIn K aPL "update" = some (some (.ref paupdate)))
    (plupdate : K.lookup paupdate = some ⟨poupdate, pdupdate, .seq piupdate pnupdate, psupdate⟩)
    (ptupdate : poupdate = .type "tuple")
    (pvupdate : kiAre "address" 1 piupdate.toList = true)
    (pwapply : PySem.W.nsIn K aPL "apply" = some (some (.ref paapply)))
    (plapply : K.lookup paapply = some ⟨poapply, pdapply, .seq piapply pnapply, psapply⟩)
    (ptapply : poapply = .type "tuple")
    (pvapply : kiAre "words" 1 piapply.toList = true)
    (pwcase : PySem.W.nsIn K aPL "case" = some (some (.ref pacase)))
    (plcase : K.lookup pacase = some ⟨pocase, pdcase, .seq picase pncase, pscase⟩)
    (ptcase : pocase = .type "tuple")
    (pvcase : kiAre "words" 3 picase.toList = true)
    (pwpick : PySem.W.nsIn K aPL "pick" = some (some (.ref papick)))
    (plpick : K.lookup papick = some ⟨popick, pdpick, .seq pipick pnpick, pspick⟩)
    (ptpick : popick = .type "tuple")
    (pvpick : kiAre "words" 3 pipick.toList = true)
    (pwseq : PySem.W.nsIn K aPL "seq" = some (some (.ref paseq)))
    (plseq : K.lookup paseq = some ⟨poseq, pdseq, .seq piseq pnseq, psseq⟩)
    (ptseq : poseq = .type "tuple")
    (pvseq : kiAre "words" 2 piseq.toList = true)
    (pwright : PySem.W.nsIn K aPL "right" = some (some (.ref paright)))
    (plright : K.lookup paright = some ⟨poright, pdright, .seq piright pnright, psright⟩)
    (ptright : poright = .type "tuple")
    (pvright : kiAre "words" 3 piright.toList = true)
    (pweval : PySem.W.nsIn K aPL "eval" = some (some (.ref paeval)))
    (pleval : K.lookup paeval = some ⟨poeval, pdeval, .seq pieval pneval, pseval⟩)
    (pteval : poeval = .type "tuple")
    (pveval : kiAre "words" 2 pieval.toList = true)
    (pwvalue : PySem.W.nsIn K aPL "value" = some (some (.ref pavalue)))
    (plvalue : K.lookup pavalue = some ⟨povalue, pdvalue, .seq pivalue pnvalue, psvalue⟩)
    (ptvalue : povalue = .type "tuple")
    (pvvalue : kiAre "word" 1 pivalue.toList = true)
    (pwenter : PySem.W.nsIn K aPL "enter" = some (some (.ref paenter)))
    (plenter : K.lookup paenter = some ⟨poenter, pdenter, .seq pienter pnenter, psenter⟩)
    (ptenter : poenter = .type "tuple")
    (pventer : kiAre "word" 1 pienter.toList = true)
    (plNO : K.lookup aNO = some ⟨poNO, pdNO, .seq piNO pnNO, psNO⟩)
    (ptNO : poNO = .type "tuple")
    (pvNO : kiAre "none" 0 piNO.toList = true)
    (aM : PySem.W.nsIn K mainGlobals "Machine" = some (some (.ref CM)))
    (pgM : PySem.W.plainGet K CM Str.empty = true)
    (hdM : PySem.W.hasDictIn K CM = true)
    (poM : PySem.W.plainOver K CM = true)
    (saM : PySem.W.findIn K (.ref CM) "__setattr__" = some (some (.builtin "object.__setattr__")))
    (mkM : PySem.W.makesIn K CM = true)
    (kcM : PySem.W.keepIn K (.ref CM) = true)
    (noM0 : PySem.W.findIn K (.ref CM) "functions" = some none)
    (noM1 : PySem.W.findIn K (.ref CM) "heap" = some none)
    (noM2 : PySem.W.findIn K (.ref CM) "next_serial" = some none)
    (noM3 : PySem.W.findIn K (.ref CM) "stack" = some none)
    (noM4 : PySem.W.findIn K (.ref CM) "now" = some none)
    (noM5 : PySem.W.findIn K (.ref CM) "events" = some none)
    (noM6 : PySem.W.findIn K (.ref CM) "entered" = some none)
    (noM7 : PySem.W.findIn K (.ref CM) "collections" = some none)
    (maMInit : PySem.W.findIn K (.ref CM) "__init__" = some (some (.ref gMInit)))
    (miMInit : PySem.W.isFn K (.ref gMInit) = true)
    (mlMInit : K.lookup gMInit = some ⟨mocMInit, modMInit, .func (PySem.W.fnOf "__init__" "Machine.__init__" (defArgs sMInit) (defBody sMInit) (defScope sMInit) .none mkVMInit mdcMInit mpmMInit manMInit mcdMInit mctMInit), mslMInit⟩)
    (mcMInit : PySem.W.codeIn K mcdMInit "Machine.__init__" = true)
    (mkMInit : PySem.W.keepIn K (.ref gMInit) = true)
    (maStep : PySem.W.findIn K (.ref CM) "step" = some (some (.ref gStep)))
    (miStep : PySem.W.isFn K (.ref gStep) = true)
    (mlStep : K.lookup gStep = some ⟨mocStep, modStep, .func (PySem.W.fnOf "step" "Machine.step" (defArgs sStep) (defBody sStep) (defScope sStep) .none mkVStep mdcStep mpmStep manStep mcdStep mctStep), mslStep⟩)
    (mcStep : PySem.W.codeIn K mcdStep "Machine.step" = true)
    (mkStep : PySem.W.keepIn K (.ref gStep) = true)
    (maCollect : PySem.W.findIn K (.ref CM) "collect" = some (some (.ref gCollect)))
    (miCollect : PySem.W.isFn K (.ref gCollect) = true)
    (mlCollect : K.lookup gCollect = some ⟨mocCollect, modCollect, .func (PySem.W.fnOf "collect" "Machine.collect" (defArgs sCollect) (defBody sCollect) (defScope sCollect) .none mkVCollect mdcCollect mpmCollect manCollect mcdCollect mctCollect), mslCollect⟩)
    (mcCollect : PySem.W.codeIn K mcdCollect "Machine.collect" = true)
    (mkCollect : PySem.W.keepIn K (.ref gCollect) = true)
    (maHasRoom : PySem.W.findIn K (.ref CM) "has_room" = some (some (.ref gHasRoom)))
    (miHasRoom : PySem.W.isFn K (.ref gHasRoom) = true)
    (mlHasRoom : K.lookup gHasRoom = some ⟨mocHasRoom, modHasRoom, .func (PySem.W.fnOf "has_room" "Machine.has_room" (defArgs sHasRoom) (defBody sHasRoom) (defScope sHasRoom) .none mkVHasRoom mdcHasRoom mpmHasRoom manHasRoom mcdHasRoom mctHasRoom), mslHasRoom⟩)
    (mcHasRoom : PySem.W.codeIn K mcdHasRoom "Machine.has_room" = true)
    (mkHasRoom : PySem.W.keepIn K (.ref gHasRoom) = true)
    (aH : PySem.W.nsIn K mainGlobals "Heap" = some (some (.ref CH)))
    (pgH : PySem.W.plainGet K CH Str.empty = true)
    (hdH : PySem.W.hasDictIn K CH = true)
    (poH : PySem.W.plainOver K CH = true)
    (saH : PySem.W.findIn K (.ref CH) "__setattr__" = some (some (.builtin "object.__setattr__")))
    (mkH : PySem.W.makesIn K CH = true)
    (kcH : PySem.W.keepIn K (.ref CH) = true)
    (noH0 : PySem.W.findIn K (.ref CH) "room" = some none)
    (noH1 : PySem.W.findIn K (.ref CH) "used" = some none)
    (noH2 : PySem.W.findIn K (.ref CH) "cells" = some none)
    (noH3 : PySem.W.findIn K (.ref CH) "next_address" = some none)
    (maHInit : PySem.W.findIn K (.ref CH) "__init__" = some (some (.ref gHInit)))
    (miHInit : PySem.W.isFn K (.ref gHInit) = true)
    (mlHInit : K.lookup gHInit = some ⟨mocHInit, modHInit, .func (PySem.W.fnOf "__init__" "Heap.__init__" (defArgs sHInit) (defBody sHInit) (defScope sHInit) .none mkVHInit mdcHInit mpmHInit manHInit mcdHInit mctHInit), mslHInit⟩)
    (mcHInit : PySem.W.codeIn K mcdHInit "Heap.__init__" = true)
    (mkHInit : PySem.W.keepIn K (.ref gHInit) = true)
    (maMake : PySem.W.findIn K (.ref CH) "make" = some (some (.ref gMake)))
    (miMake : PySem.W.isFn K (.ref gMake) = true)
    (mlMake : K.lookup gMake = some ⟨mocMake, modMake, .func (PySem.W.fnOf "make" "Heap.make" (defArgs sMake) (defBody sMake) (defScope sMake) .none mkVMake mdcMake mpmMake manMake mcdMake mctMake), mslMake⟩)
    (mcMake : PySem.W.codeIn K mcdMake "Heap.make" = true)
    (mkMake : PySem.W.keepIn K (.ref gMake) = true)
    (maCell : PySem.W.findIn K (.ref CH) "cell" = some (some (.ref gCell)))
    (miCell : PySem.W.isFn K (.ref gCell) = true)
    (mlCell : K.lookup gCell = some ⟨mocCell, modCell, .func (PySem.W.fnOf "cell" "Heap.cell" (defArgs sCell) (defBody sCell) (defScope sCell) .none mkVCell mdcCell mpmCell manCell mcdCell mctCell), mslCell⟩)
    (mcCell : PySem.W.codeIn K mcdCell "Heap.cell" = true)
    (mkCell : PySem.W.keepIn K (.ref gCell) = true)
    (maPut : PySem.W.findIn K (.ref CH) "put" = some (some (.ref gPut)))
    (miPut : PySem.W.isFn K (.ref gPut) = true)
    (mlPut : K.lookup gPut = some ⟨mocPut, modPut, .func (PySem.W.fnOf "put" "Heap.put" (defArgs sPut) (defBody sPut) (defScope sPut) .none mkVPut mdcPut mpmPut manPut mcdPut mctPut), mslPut⟩)
    (mcPut : PySem.W.codeIn K mcdPut "Heap.put" = true)
    (mkPut : PySem.W.keepIn K (.ref gPut) = true)
    (maFits : PySem.W.findIn K (.ref CH) "fits" = some (some (.ref gFits)))
    (miFits : PySem.W.isFn K (.ref gFits) = true)
    (mlFits : K.lookup gFits = some ⟨mocFits, modFits, .func (PySem.W.fnOf "fits" "Heap.fits" (defArgs sFits) (defBody sFits) (defScope sFits) .none mkVFits mdcFits mpmFits manFits mcdFits mctFits), mslFits⟩)
    (mcFits : PySem.W.codeIn K mcdFits "Heap.fits" = true)
    (mkFits : PySem.W.keepIn K (.ref gFits) = true)
    (maRenew : PySem.W.findIn K (.ref CH) "renew" = some (some (.ref gRenew)))
    (miRenew : PySem.W.isFn K (.ref gRenew) = true)
    (mlRenew : K.lookup gRenew = some ⟨mocRenew, modRenew, .func (PySem.W.fnOf "renew" "Heap.renew" (defArgs sRenew) (defBody sRenew) (defScope sRenew) .none mkVRenew mdcRenew mpmRenew manRenew mcdRenew mctRenew), mslRenew⟩)
    (mcRenew : PySem.W.codeIn K mcdRenew "Heap.renew" = true)
    (mkRenew : PySem.W.keepIn K (.ref gRenew) = true)
    (aO : PySem.W.nsIn K mainGlobals "Collection" = some (some (.ref CO)))
    (pgO : PySem.W.plainGet K CO Str.empty = true)
    (hdO : PySem.W.hasDictIn K CO = true)
    (poO : PySem.W.plainOver K CO = true)
    (saO : PySem.W.findIn K (.ref CO) "__setattr__" = some (some (.builtin "object.__setattr__")))
    (mkO : PySem.W.makesIn K CO = true)
    (kcO : PySem.W.keepIn K (.ref CO) = true)
    (noO0 : PySem.W.findIn K (.ref CO) "cells" = some none)
    (noO1 : PySem.W.findIn K (.ref CO) "met" = some none)
    (noO2 : PySem.W.findIn K (.ref CO) "new_addresses" = some none)
    (maCInit : PySem.W.findIn K (.ref CO) "__init__" = some (some (.ref gCInit)))
    (miCInit : PySem.W.isFn K (.ref gCInit) = true)
    (mlCInit : K.lookup gCInit = some ⟨mocCInit, modCInit, .func (PySem.W.fnOf "__init__" "Collection.__init__" (defArgs sCInit) (defBody sCInit) (defScope sCInit) .none mkVCInit mdcCInit mpmCInit manCInit mcdCInit mctCInit), mslCInit⟩)
    (mcCInit : PySem.W.codeIn K mcdCInit "Collection.__init__" = true)
    (mkCInit : PySem.W.keepIn K (.ref gCInit) = true)
    (maNewWord : PySem.W.findIn K (.ref CO) "new_word" = some (some (.ref gNewWord)))
    (miNewWord : PySem.W.isFn K (.ref gNewWord) = true)
    (mlNewWord : K.lookup gNewWord = some ⟨mocNewWord, modNewWord, .func (PySem.W.fnOf "new_word" "Collection.new_word" (defArgs sNewWord) (defBody sNewWord) (defScope sNewWord) .none mkVNewWord mdcNewWord mpmNewWord manNewWord mcdNewWord mctNewWord), mslNewWord⟩)
    (mcNewWord : PySem.W.codeIn K mcdNewWord "Collection.new_word" = true)
    (mkNewWord : PySem.W.keepIn K (.ref gNewWord) = true)
    (maRenewed : PySem.W.findIn K (.ref CO) "renewed" = some (some (.ref gRenewed)))
    (miRenewed : PySem.W.isFn K (.ref gRenewed) = true)
    (mlRenewed : K.lookup gRenewed = some ⟨mocRenewed, modRenewed, .func (PySem.W.fnOf "renewed" "Collection.renewed" (defArgs sRenewed) (defBody sRenewed) (defScope sRenewed) .none mkVRenewed mdcRenewed mpmRenewed manRenewed mcdRenewed mctRenewed), mslRenewed⟩)
    (mcRenewed : PySem.W.codeIn K mcdRenewed "Collection.renewed" = true)
    (mkRenewed : PySem.W.keepIn K (.ref gRenewed) = true)
    (pa1 : PySem.W.findIn K (.ref CM) "stopped" = some (some (.ref pStop)))
    (pa2 : PySem.W.specialIn K (.ref pStop) "__get__" = some (some (.builtin "property.__get__")))
    (pa3 : PySem.W.takesIn K (.ref pStop) = some true)
    (pa4 : PySem.W.recIn K pStop "property" = some (.ref gStopped :: restStop))
    (mlStopped : K.lookup gStopped = some ⟨mocStopped, modStopped, .func (PySem.W.fnOf "stopped" "Machine.stopped" (defArgs sStopped) (defBody sStopped) (defScope sStopped) .none mkVStopped mdcStopped mpmStopped manStopped mcdStopped mctStopped), mslStopped⟩)
    (mcStopped : PySem.W.codeIn K mcdStopped "Machine.stopped" = true)
    (mkStopped : PySem.W.keepIn K (.ref gStopped) = true)
    (zlen : PySem.W.nsIn K mainGlobals "len" = some none)
    (zint : PySem.W.nsIn K mainGlobals "int" = some none)
    (zrange : PySem.W.nsIn K mainGlobals "range" = some none)
    (zabs : PySem.W.nsIn K mainGlobals "abs" = some none)
    (ztuple : PySem.W.nsIn K mainGlobals "tuple" = some none)
    (zmax : PySem.W.nsIn K mainGlobals "max" = some none)
    (zsum : PySem.W.nsIn K mainGlobals "sum" = some none)
    (zenumerate : PySem.W.nsIn K mainGlobals "enumerate" = some none)
    (zlist : PySem.W.nsIn K mainGlobals "list" = some none)
    (zdict : PySem.W.nsIn K mainGlobals "dict" = some none) :
    ∃ fd : FuncData, (∀ (s : Shared) (v : Value), BindsTo s fd ⟨[v], []⟩ [("script", v)]) ∧ ∀ base : Heap, K.In base → base.Ns mainGlobals mg → FnOk l.prog w K mg base CX0 8 fa fd ["script"] (spLaw K) := by
  have e := hfa.symm.trans (PySem.W.mg_of X G a42)
  cases e
  have nlen := PySem.W.mg_none_of X G zlen
  have nint := PySem.W.mg_none_of X G zint
  have nrange := PySem.W.mg_none_of X G zrange
  have nabs := PySem.W.mg_none_of X G zabs
  have ntuple := PySem.W.mg_none_of X G ztuple
  have nmax := PySem.W.mg_none_of X G zmax
  have nsum := PySem.W.mg_none_of X G zsum
  have nenumerate := PySem.W.mg_none_of X G zenumerate
  have nlist := PySem.W.mg_none_of X G zlist
  have ndict := PySem.W.mg_none_of X G zdict
  have FEnter := fun_mk (st := sEnter) l0 c0 k0
  have bEnter := FEnter.binds (ps := ["machine", "word"]) fun _ _ _ _ _ _ us hl => match us, hl with | [_, _], _ => rfl
  have mEnter := PySem.W.mg_of X G a0
  have FSize := fun_mk (st := sSize) l1 c1 k1
  have bSize := FSize.binds (ps := ["cell"]) fun _ _ _ _ _ _ us hl => match us, hl with | [_], _ => rfl
  have mSize := PySem.W.mg_of X G a1
  have FWordOf := fun_mk (st := sWordOf) l2 c2 k2
  have bWordOf := FWordOf.binds (ps := ["operand", "words"]) fun _ _ _ _ _ _ us hl => match us, hl with | [_, _], _ => rfl
  have mWordOf := PySem.W.mg_of X G a2
  have FSizeE := fun_mk (st := sSizeE) l3 c3 k3
  have bSizeE := FSizeE.binds (ps := ["body"]) fun _ _ _ _ _ _ us hl => match us, hl with | [_], _ => rfl
  have mSizeE := PySem.W.mg_of X G a3
  have FEvaluate := fun_mk (st := sEvaluate) l4 c4 k4
  have bEvaluate := FEvaluate.binds (ps := ["machine", "body", "words"]) fun _ _ _ _ _ _ us hl => match us, hl with | [_, _, _], _ => rfl
  have mEvaluate := PySem.W.mg_of X G a4
  have FEvGive := fun_mk (st := sEvGive) l5 c5 k5
  have bEvGive := FEvGive.binds (ps := ["machine", "body", "words"]) fun _ _ _ _ _ _ us hl => match us, hl with | [_, _, _], _ => rfl
  have mEvGive := PySem.W.mg_of X G a5
  have FEvCall := fun_mk (st := sEvCall) l6 c6 k6
  have bEvCall := FEvCall.binds (ps := ["machine", "body", "words"]) fun _ _ _ _ _ _ us hl => match us, hl with | [_, _, _], _ => rfl
  have mEvCall := PySem.W.mg_of X G a6
  have FEvCon := fun_mk (st := sEvCon) l7 c7 k7
  have bEvCon := FEvCon.binds (ps := ["machine", "body", "words"]) fun _ _ _ _ _ _ us hl => match us, hl with | [_, _, _], _ => rfl
  have mEvCon := PySem.W.mg_of X G a7
  have FEvPrim := fun_mk (st := sEvPrim) l8 c8 k8
  have bEvPrim := FEvPrim.binds (ps := ["machine", "body", "words"]) fun _ _ _ _ _ _ us hl => match us, hl with | [_, _, _], _ => rfl
  have mEvPrim := PySem.W.mg_of X G a8
  have FEvLet := fun_mk (st := sEvLet) l9 c9 k9
  have bEvLet := FEvLet.binds (ps := ["machine", "body", "words"]) fun _ _ _ _ _ _ us hl => match us, hl with | [_, _, _], _ => rfl
  have mEvLet := PySem.W.mg_of X G a9
  have FEvSeq := fun_mk (st := sEvSeq) l10 c10 k10
  have bEvSeq := FEvSeq.binds (ps := ["machine", "body", "words"]) fun _ _ _ _ _ _ us hl => match us, hl with | [_, _, _], _ => rfl
  have mEvSeq := PySem.W.mg_of X G a10
  have FEvChoice := fun_mk (st := sEvChoice) l11 c11 k11
  have bEvChoice := FEvChoice.binds (ps := ["machine", "body", "words"]) fun _ _ _ _ _ _ us hl => match us, hl with | [_, _, _], _ => rfl
  have mEvChoice := PySem.W.mg_of X G a11
  have FEvNote := fun_mk (st := sEvNote) l12 c12 k12
  have bEvNote := FEvNote.binds (ps := ["machine", "body", "words"]) fun _ _ _ _ _ _ us hl => match us, hl with | [_, _, _], _ => rfl
  have mEvNote := PySem.W.mg_of X G a12
  have FWordsOf := fun_mk (st := sWordsOf) l13 c13 k13
  have bWordsOf := FWordsOf.binds (ps := ["operands", "words"]) fun _ _ _ _ _ _ us hl => match us, hl with | [_, _], _ => rfl
  have mWordsOf := PySem.W.mg_of X G a13
  have FSizeM := fun_mk (st := sSizeM) l14 c14 k14
  have bSizeM := FSizeM.binds (ps := ["member"]) fun _ _ _ _ _ _ us hl => match us, hl with | [_], _ => rfl
  have mSizeM := PySem.W.mg_of X G a14
  have FMemCell := fun_mk (st := sMemCell) l15 c15 k15
  have bMemCell := FMemCell.binds (ps := ["machine", "member", "words"]) fun _ _ _ _ _ _ us hl => match us, hl with | [_, _, _], _ => rfl
  have mMemCell := PySem.W.mg_of X G a15
  have FPrimRes := fun_mk (st := sPrimRes) l16 c16 k16
  have bPrimRes := FPrimRes.binds (ps := ["sign", "one", "other"]) fun _ _ _ _ _ _ us hl => match us, hl with | [_, _, _], _ => rfl
  have mPrimRes := PySem.W.mg_of X G a16
  have FHolds := fun_mk (st := sHolds) l17 c17 k17
  have bHolds := FHolds.binds (ps := ["sign", "one", "other"]) fun _ _ _ _ _ _ us hl => match us, hl with | [_, _, _], _ => rfl
  have mHolds := PySem.W.mg_of X G a17
  have FWorked := fun_mk (st := sWorked) l18 c18 k18
  have bWorked := FWorked.binds (ps := ["sign", "one", "other"]) fun _ _ _ _ _ _ us hl => match us, hl with | [_, _, _], _ => rfl
  have mWorked := PySem.W.mg_of X G a18
  have FSizeMt := fun_mk (st := sSizeMt) l19 c19 k19
  have bSizeMt := FSizeMt.binds (ps := ["machine", "frame", "word"]) fun _ _ _ _ _ _ us hl => match us, hl with | [_, _, _], _ => rfl
  have mSizeMt := PySem.W.mg_of X G a19
  have FMeet := fun_mk (st := sMeet) l20 c20 k20
  have bMeet := FMeet.binds (ps := ["machine", "frame", "word"]) fun _ _ _ _ _ _ us hl => match us, hl with | [_, _, _], _ => rfl
  have mMeet := PySem.W.mg_of X G a20
  have FCellOf := fun_mk (st := sCellOf) l21 c21 k21
  have bCellOf := FCellOf.binds (ps := ["machine", "word"]) fun _ _ _ _ _ _ us hl => match us, hl with | [_, _], _ => rfl
  have mCellOf := PySem.W.mg_of X G a21
  have FIsPart := fun_mk (st := sIsPart) l22 c22 k22
  have bIsPart := FIsPart.binds (ps := ["machine", "cell", "frame"]) fun _ _ _ _ _ _ us hl => match us, hl with | [_, _, _], _ => rfl
  have mIsPart := PySem.W.mg_of X G a22
  have FFault := fun_mk (st := sFault) l23 c23 k23
  have bFault := FFault.binds (ps := ["machine", "text"]) fun _ _ _ _ _ _ us hl => match us, hl with | [_, _], _ => rfl
  have mFault := PySem.W.mg_of X G a23
  have FMtShow := fun_mk (st := sMtShow) l24 c24 k24
  have bMtShow := FMtShow.binds (ps := ["machine", "frame", "word"]) fun _ _ _ _ _ _ us hl => match us, hl with | [_, _, _], _ => rfl
  have mMtShow := PySem.W.mg_of X G a24
  have FMtHead := fun_mk (st := sMtHead) l25 c25 k25
  have bMtHead := FMtHead.binds (ps := ["machine", "frame", "word"]) fun _ _ _ _ _ _ us hl => match us, hl with | [_, _, _], _ => rfl
  have mMtHead := PySem.W.mg_of X G a25
  have FMtUpd := fun_mk (st := sMtUpd) l26 c26 k26
  have bMtUpd := FMtUpd.binds (ps := ["machine", "frame", "word"]) fun _ _ _ _ _ _ us hl => match us, hl with | [_, _, _], _ => rfl
  have mMtUpd := PySem.W.mg_of X G a26
  have FMtApply := fun_mk (st := sMtApply) l27 c27 k27
  have bMtApply := FMtApply.binds (ps := ["machine", "frame", "word"]) fun _ _ _ _ _ _ us hl => match us, hl with | [_, _, _], _ => rfl
  have mMtApply := PySem.W.mg_of X G a27
  have FMtCase := fun_mk (st := sMtCase) l28 c28 k28
  have bMtCase := FMtCase.binds (ps := ["machine", "frame", "word"]) fun _ _ _ _ _ _ us hl => match us, hl with | [_, _, _], _ => rfl
  have mMtCase := PySem.W.mg_of X G a28
  have FMtPick := fun_mk (st := sMtPick) l29 c29 k29
  have bMtPick := FMtPick.binds (ps := ["machine", "frame", "word"]) fun _ _ _ _ _ _ us hl => match us, hl with | [_, _, _], _ => rfl
  have mMtPick := PySem.W.mg_of X G a29
  have FChDef := fun_mk (st := sChDef) l30 c30 k30
  have bChDef := FChDef.binds (ps := ["machine", "default", "words", "word"]) fun _ _ _ _ _ _ us hl => match us, hl with | [_, _, _, _], _ => rfl
  have mChDef := PySem.W.mg_of X G a30
  have FMtSeq := fun_mk (st := sMtSeq) l31 c31 k31
  have bMtSeq := FMtSeq.binds (ps := ["machine", "frame", "word"]) fun _ _ _ _ _ _ us hl => match us, hl with | [_, _, _], _ => rfl
  have mMtSeq := PySem.W.mg_of X G a31
  have FMtRight := fun_mk (st := sMtRight) l32 c32 k32
  have bMtRight := FMtRight.binds (ps := ["machine", "frame", "word"]) fun _ _ _ _ _ _ us hl => match us, hl with | [_, _, _], _ => rfl
  have mMtRight := PySem.W.mg_of X G a32
  have FMtPrim := fun_mk (st := sMtPrim) l33 c33 k33
  have bMtPrim := FMtPrim.binds (ps := ["machine", "frame", "word"]) fun _ _ _ _ _ _ us hl => match us, hl with | [_, _, _], _ => rfl
  have mMtPrim := PySem.W.mg_of X G a33
  have FSizeN := fun_mk (st := sSizeN) l34 c34 k34
  have bSizeN := FSizeN.binds (ps := ["machine"]) fun _ _ _ _ _ _ us hl => match us, hl with | [_], _ => rfl
  have mSizeN := PySem.W.mg_of X G a34
  have FRunCode := fun_mk (st := sRunCode) l35 c35 k35
  have bRunCode := FRunCode.binds (ps := ["program", "room", "schedule", "steps"]) fun _ _ _ _ _ _ us hl => match us, hl with | [_, _, _, _], _ => rfl
  have mRunCode := PySem.W.mg_of X G a35
  have FDraws := fun_mk (st := sDraws) l36 c36 k36
  have bDraws := FDraws.binds (ps := ["script", "many"]) fun _ _ _ _ _ _ us hl => match us, hl with | [_, _], _ => rfl
  have mDraws := PySem.W.mg_of X G a36
  have FNext := fun_mk (st := sNext) l37 c37 k37
  have bNext := FNext.binds (ps := ["w", "many"]) fun _ _ _ _ _ _ us hl => match us, hl with | [_, _], _ => rfl
  have mNext := PySem.W.mg_of X G a37
  have FLNeeds := fun_mk (st := sLNeeds) l38 c38 k38
  have bLNeeds := FLNeeds.binds (ps := ["w", "at"]) fun _ _ _ _ _ _ us hl => match us, hl with | [_, _], _ => rfl
  have mLNeeds := PySem.W.mg_of X G a38
  have FWordsIn := fun_mk (st := sWordsIn) l39 c39 k39
  have bWordsIn := FWordsIn.binds (ps := ["thing"]) fun _ _ _ _ _ _ us hl => match us, hl with | [_], _ => rfl
  have mWordsIn := PySem.W.mg_of X G a39
  have FRoots := fun_mk (st := sRoots) l40 c40 k40
  have bRoots := FRoots.binds (ps := ["global_count", "stack", "now"]) fun _ _ _ _ _ _ us hl => match us, hl with | [_, _, _], _ => rfl
  have mRoots := PySem.W.mg_of X G a40
  have FCollectCells := fun_mk (st := sCollectCells) l41 c41 k41
  have bCollectCells := FCollectCells.binds (ps := ["cells", "global_count", "stack", "now"]) fun _ _ _ _ _ _ us hl => match us, hl with | [_, _, _, _], _ => rfl
  have mCollectCells := PySem.W.mg_of X G a41
  have FLaw := fun_mk (st := sLaw) l42 c42 k42
  have bLaw := FLaw.binds (ps := ["script"]) fun _ _ _ _ _ _ us hl => match us, hl with | [_], _ => rfl
  have mLaw := PySem.W.mg_of X G a42
  refine ⟨PySem.W.fnOf "law" "law" (defArgs sLaw) (defBody sLaw) (defScope sLaw) .none kV42 dc42 pm42 an42 cd42 ct42, fun s v => .of_eq rfl, fun base _ _ => ?_⟩
  have FMInit := fun_mk (st := sMInit) mlMInit mcMInit mkMInit
  have bMInit := FMInit.binds (ps := ["self", "program", "room"]) fun _ _ _ _ _ _ us hl => match us, hl with | [_, _, _], _ => rfl
  have eMInit : Meth K CM "__init__" gMInit := ⟨maMInit, miMInit, mkMInit⟩
  have FStep := fun_mk (st := sStep) mlStep mcStep mkStep
  have bStep := FStep.binds (ps := ["self"]) fun _ _ _ _ _ _ us hl => match us, hl with | [_], _ => rfl
  have eStep : Meth K CM "step" gStep := ⟨maStep, miStep, mkStep⟩
  have FCollect := fun_mk (st := sCollect) mlCollect mcCollect mkCollect
  have bCollect := FCollect.binds (ps := ["self"]) fun _ _ _ _ _ _ us hl => match us, hl with | [_], _ => rfl
  have eCollect : Meth K CM "collect" gCollect := ⟨maCollect, miCollect, mkCollect⟩
  have FHasRoom := fun_mk (st := sHasRoom) mlHasRoom mcHasRoom mkHasRoom
  have bHasRoom := FHasRoom.binds (ps := ["self", "size"]) fun _ _ _ _ _ _ us hl => match us, hl with | [_, _], _ => rfl
  have eHasRoom : Meth K CM "has_room" gHasRoom := ⟨maHasRoom, miHasRoom, mkHasRoom⟩
  have FHInit := fun_mk (st := sHInit) mlHInit mcHInit mkHInit
  have bHInit := FHInit.binds (ps := ["self", "room"]) fun _ _ _ _ _ _ us hl => match us, hl with | [_, _], _ => rfl
  have eHInit : Meth K CH "__init__" gHInit := ⟨maHInit, miHInit, mkHInit⟩
  have FMake := fun_mk (st := sMake) mlMake mcMake mkMake
  have bMake := FMake.binds (ps := ["self", "cell"]) fun _ _ _ _ _ _ us hl => match us, hl with | [_, _], _ => rfl
  have eMake : Meth K CH "make" gMake := ⟨maMake, miMake, mkMake⟩
  have FCell := fun_mk (st := sCell) mlCell mcCell mkCell
  have bCell := FCell.binds (ps := ["self", "address"]) fun _ _ _ _ _ _ us hl => match us, hl with | [_, _], _ => rfl
  have eCell : Meth K CH "cell" gCell := ⟨maCell, miCell, mkCell⟩
  have FPut := fun_mk (st := sPut) mlPut mcPut mkPut
  have bPut := FPut.binds (ps := ["self", "address", "cell"]) fun _ _ _ _ _ _ us hl => match us, hl with | [_, _, _], _ => rfl
  have ePut : Meth K CH "put" gPut := ⟨maPut, miPut, mkPut⟩
  have FFits := fun_mk (st := sFits) mlFits mcFits mkFits
  have bFits := FFits.binds (ps := ["self", "size"]) fun _ _ _ _ _ _ us hl => match us, hl with | [_, _], _ => rfl
  have eFits : Meth K CH "fits" gFits := ⟨maFits, miFits, mkFits⟩
  have FRenew := fun_mk (st := sRenew) mlRenew mcRenew mkRenew
  have bRenew := FRenew.binds (ps := ["self", "cells", "next_address"]) fun _ _ _ _ _ _ us hl => match us, hl with | [_, _, _], _ => rfl
  have eRenew : Meth K CH "renew" gRenew := ⟨maRenew, miRenew, mkRenew⟩
  have FCInit := fun_mk (st := sCInit) mlCInit mcCInit mkCInit
  have bCInit := FCInit.binds (ps := ["self", "cells", "global_count"]) fun _ _ _ _ _ _ us hl => match us, hl with | [_, _, _], _ => rfl
  have eCInit : Meth K CO "__init__" gCInit := ⟨maCInit, miCInit, mkCInit⟩
  have FNewWord := fun_mk (st := sNewWord) mlNewWord mcNewWord mkNewWord
  have bNewWord := FNewWord.binds (ps := ["self", "word"]) fun _ _ _ _ _ _ us hl => match us, hl with | [_, _], _ => rfl
  have eNewWord : Meth K CO "new_word" gNewWord := ⟨maNewWord, miNewWord, mkNewWord⟩
  have FRenewed := fun_mk (st := sRenewed) mlRenewed mcRenewed mkRenewed
  have bRenewed := FRenewed.binds (ps := ["self", "thing"]) fun _ _ _ _ _ _ us hl => match us, hl with | [_, _], _ => rfl
  have eRenewed : Meth K CO "renewed" gRenewed := ⟨maRenewed, miRenewed, mkRenewed⟩
  have FStopped := fun_mk (st := sStopped) mlStopped mcStopped mkStopped
  have bStopped := FStopped.binds (ps := ["self"]) fun _ _ _ _ _ _ us hl => match us, hl with | [_], _ => rfl
  have TM : TxtMk K CM := ⟨⟨pgM, hdM, poM, saM⟩, noM0, noM1, noM2, noM3, noM4, noM5, noM6, noM7⟩
  have TH : TxtH K CH := ⟨⟨pgH, hdH, poH, saH⟩, noH0, noH1, noH2, noH3⟩
  have CSize := c_size (P := l.prog) (w := w) (base := base) ⟨nlen, nmax, ⟨_, PySem.W.mg_of X G cst2, _, rfl⟩⟩ FSize bSize mSize
  have CMake := c_make (P := l.prog) (w := w) (base := base) (mg := mg) TH CSize eMake FMake bMake
  have CCell := c_cell (P := l.prog) (w := w) (base := base) (mg := mg) TH eCell FCell bCell
  have CPut := c_put (P := l.prog) (w := w) (base := base) (mg := mg) TH CSize ePut FPut bPut
  have CFits := c_fits (P := l.prog) (w := w) (base := base) (mg := mg) TH eFits FFits bFits
  have TE : TxtEv mg := ⟨nlen, ntuple, nsum, nrange⟩
  have CWordOf := c_wordof (P := l.prog) (w := w) (base := base)  FWordOf bWordOf mWordOf
  have CWordsOf := c_wordsof (P := l.prog) (w := w) (base := base) TE CWordOf FWordsOf bWordsOf mWordsOf
  have CEnter := c_enter (P := l.prog) (w := w) (base := base) TM TH CCell CPut FEnter bEnter mEnter
  have CSizeM := c_sizem (P := l.prog) (w := w) (base := base) CSize FSizeM bSizeM mSizeM
  have CSizeE := c_sizee (P := l.prog) (w := w) (base := base) TE CSize CSizeM FSizeE bSizeE mSizeE
  have CMemCell := c_memcell (CH := CH) (P := l.prog) (w := w) (base := base) TM CWordsOf FMemCell bMemCell mMemCell
  have CEvGive := c_evaluate_give (CH := CH) (P := l.prog) (w := w) (base := base) TM CWordOf FEvGive bEvGive mEvGive
  have CEvCall := c_evaluate_call (CH := CH) (P := l.prog) (w := w) (base := base) TM CWordOf CWordsOf FEvCall bEvCall mEvCall
  have CEvCon := c_evaluate_con (P := l.prog) (w := w) (base := base) TM CWordsOf CMake FEvCon bEvCon mEvCon
  have CEvPrim := c_evaluate_prim (CH := CH) (P := l.prog) (w := w) (base := base) TM CWordOf FEvPrim bEvPrim mEvPrim
  have CEvSeq := c_evaluate_seq (CH := CH) (P := l.prog) (w := w) (base := base) TM FEvSeq bEvSeq mEvSeq
  have CEvChoice := c_evaluate_choice (CH := CH) (P := l.prog) (w := w) (base := base) TM FEvChoice bEvChoice mEvChoice
  have CEvNote := c_evaluate_note (CH := CH) (P := l.prog) (w := w) (base := base) TM FEvNote bEvNote mEvNote
  have CEvLet := c_evaluate_let (P := l.prog) (w := w) (base := base) TM TH TE CMake CMemCell FEvLet bEvLet mEvLet
  have TP : TxtPr K mg aBZ aOV := ⟨⟨_, PySem.W.mg_of X G gtBZ, rfl⟩, written_tup (by decide) ltBZ ctBZ vtBZ, ⟨_, PySem.W.mg_of X G gtOV, rfl⟩, written_tup (by decide) ltOV ctOV vtOV, ⟨_, PySem.W.mg_of X G cst1, _, rfl⟩⟩
  have CHolds := c_holdsT (P := l.prog) (w := w) (base := base)  FHolds bHolds mHolds
  have CWorked := c_worked (P := l.prog) (w := w) (base := base)  FWorked bWorked mWorked
  have CPrimRes := c_primres (P := l.prog) (w := w) (base := base) TP CHolds CWorked FPrimRes bPrimRes mPrimRes
  have TT : TxtMt K mg CM aST := ⟨TM, nlen, ⟨_, PySem.W.mg_of X G gtST, rfl⟩, written_tup (by decide) ltST ctST vtST⟩
  have TZ : TxtSz K mg CM aST aCO := ⟨TT, ⟨_, PySem.W.mg_of X G gtCO, rfl⟩, written_tup (by decide) ltCO ctCO vtCO⟩
  have CCellOf := c_cellof (P := l.prog) (w := w) (base := base) TM CCell FCellOf bCellOf mCellOf
  have CIsPart := c_ispart (CH := CH) (P := l.prog) (w := w) (base := base) TT FIsPart bIsPart mIsPart
  have CFault := c_fault (CH := CH) (P := l.prog) (w := w) (base := base) TM FFault bFault mFault
  have CChDef := c_chdef (P := l.prog) (w := w) (base := base) TM CFault FChDef bChDef mChDef
  have CMtShow := c_meet_show (P := l.prog) (w := w) (base := base) TT CCellOf FMtShow bMtShow mMtShow
  have CMtHead := c_meet_head (P := l.prog) (w := w) (base := base) TT CCellOf FMtHead bMtHead mMtHead
  have CMtUpd := c_meet_update (P := l.prog) (w := w) (base := base) TT CCellOf CPut FMtUpd bMtUpd mMtUpd
  have CMtSeq := c_meet_seq (P := l.prog) (w := w) (base := base) TT CCellOf FMtSeq bMtSeq mMtSeq
  have CMtRight := c_meet_right (P := l.prog) (w := w) (base := base) TT CCellOf CWordOf FMtRight bMtRight mMtRight
  have CMtPrim := c_meet_prim (P := l.prog) (w := w) (base := base) TT CCellOf CMake CFault CPrimRes FMtPrim bMtPrim mMtPrim
  have CMtApply := c_meet_apply (P := l.prog) (w := w) (base := base) TT CCellOf CMake CIsPart FMtApply bMtApply mMtApply
  have CMtCase := c_meet_case (P := l.prog) (w := w) (base := base) TT CCellOf CChDef FMtCase bMtCase mMtCase
  have CMtPick := c_meet_pick (P := l.prog) (w := w) (base := base) TT CCellOf CChDef FMtPick bMtPick mMtPick
  have CSizeMt := c_sizemt (P := l.prog) (w := w) (base := base) TZ CCellOf CSize CIsPart FSizeMt bSizeMt mSizeMt
  have ndE2 : (([(f5, spEv K CM CH .give), (f6, spEv K CM CH .call), (f7, spEv K CM CH .con), (f8, spEv K CM CH .prim), (f9, spEv K CM CH .lt), (f10, spEv K CM CH .seq), (f11, spEvC K CM CH), (f12, spEv K CM CH .note)] : List (Addr × Sp)).map (·.1)).Nodup := ndE
  have mE : ∀ z : Wd, ∃ f sp, PySem.W.nsIn K aEV z.str = some (some (.ref f)) ∧ tab [(f5, spEv K CM CH .give), (f6, spEv K CM CH .call), (f7, spEv K CM CH .con), (f8, spEv K CM CH .prim), (f9, spEv K CM CH .lt), (f10, spEv K CM CH .seq), (f11, spEvC K CM CH), (f12, spEv K CM CH .note)] f = some sp ∧ ∀ vs H Q E, spEv K CM CH z vs H Q E → sp vs H Q E := fun z => by
    cases z with
    | give => exact ⟨_, _, wEVgive, tab_mem ndE2 (.head _), fun vs H Q E h => h⟩
    | call => exact ⟨_, _, wEVcall, tab_mem ndE2 (.tail _ (.head _)), fun vs H Q E h => h⟩
    | con => exact ⟨_, _, wEVcon, tab_mem ndE2 (.tail _ (.tail _ (.head _))), fun vs H Q E h => h⟩
    | prim => exact ⟨_, _, wEVprim, tab_mem ndE2 (.tail _ (.tail _ (.tail _ (.head _)))), fun vs H Q E h => h⟩
    | lt => exact ⟨_, _, wEVlet, tab_mem ndE2 (.tail _ (.tail _ (.tail _ (.tail _ (.head _))))), fun vs H Q E h => h⟩
    | seq => exact ⟨_, _, wEVseq, tab_mem ndE2 (.tail _ (.tail _ (.tail _ (.tail _ (.tail _ (.head _)))))), fun vs H Q E h => h⟩
    | note => exact ⟨_, _, wEVnote, tab_mem ndE2 (.tail _ (.tail _ (.tail _ (.tail _ (.tail _ (.tail _ (.tail _ (.head _)))))))), fun vs H Q E h => h⟩
    | ch c =>
      cases c
      · exact ⟨_, _, wEVpick, tab_mem ndE2 (.tail _ (.tail _ (.tail _ (.tail _ (.tail _ (.tail _ (.head _))))))), fun vs H Q E h => ⟨_, h⟩⟩
      · exact ⟨_, _, wEVcase, tab_mem ndE2 (.tail _ (.tail _ (.tail _ (.tail _ (.tail _ (.tail _ (.head _))))))), fun vs H Q E h => ⟨_, h⟩⟩
  have hE : ∀ f sp, tab [(f5, spEv K CM CH .give), (f6, spEv K CM CH .call), (f7, spEv K CM CH .con), (f8, spEv K CM CH .prim), (f9, spEv K CM CH .lt), (f10, spEv K CM CH .seq), (f11, spEvC K CM CH), (f12, spEv K CM CH .note)] f = some sp → Held l.prog w K mg base 4 f sp := fun f sp h => by
    have h := tab_of h
    rcases List.mem_cons.mp h with e | h
    · cases e
      exact held_up (held_of CEvGive mEvGive) (by decide)
    rcases List.mem_cons.mp h with e | h
    · cases e
      exact held_up (held_of CEvCall mEvCall) (by decide)
    rcases List.mem_cons.mp h with e | h
    · cases e
      exact held_up (held_of CEvCon mEvCon) (by decide)
    rcases List.mem_cons.mp h with e | h
    · cases e
      exact held_up (held_of CEvPrim mEvPrim) (by decide)
    rcases List.mem_cons.mp h with e | h
    · cases e
      exact held_up (held_of CEvLet mEvLet) (by decide)
    rcases List.mem_cons.mp h with e | h
    · cases e
      exact held_up (held_of CEvSeq mEvSeq) (by decide)
    rcases List.mem_cons.mp h with e | h
    · cases e
      exact held_up (held_of CEvChoice mEvChoice) (by decide)
    rcases List.mem_cons.mp h with e | h
    · cases e
      exact held_up (held_of CEvNote mEvNote) (by decide)
    cases h
  have ndM2 : (([(f24, spMt K CM CH fun f => f = .show), (f25, spMt K CM CH fun f => ∃ r, f = .head r), (f26, spMt K CM CH fun f => ∃ a, f = .upd a), (f27, spMt K CM CH fun f => ∃ ws, f = .apply ws), (f28, spMt K CM CH fun f => ∃ rows d ws, f = .ch true rows d ws), (f29, spMt K CM CH fun f => ∃ rows d ws, f = .ch false rows d ws), (f31, spMt K CM CH fun f => ∃ b ws, f = .seq b ws), (f32, spMt K CM CH fun f => ∃ s o ws, f = .right s o ws), (f33, spMt K CM CH fun f => ∃ s i, f = .prim s i)] : List (Addr × Sp)).map (·.1)).Nodup := ndM
  have mM : ∀ g : Fm, ∃ (f : Addr) (kind : Fm → Prop), PySem.W.nsIn K aMT g.word = some (some (.ref f)) ∧ tab [(f24, spMt K CM CH fun f => f = .show), (f25, spMt K CM CH fun f => ∃ r, f = .head r), (f26, spMt K CM CH fun f => ∃ a, f = .upd a), (f27, spMt K CM CH fun f => ∃ ws, f = .apply ws), (f28, spMt K CM CH fun f => ∃ rows d ws, f = .ch true rows d ws), (f29, spMt K CM CH fun f => ∃ rows d ws, f = .ch false rows d ws), (f31, spMt K CM CH fun f => ∃ b ws, f = .seq b ws), (f32, spMt K CM CH fun f => ∃ s o ws, f = .right s o ws), (f33, spMt K CM CH fun f => ∃ s i, f = .prim s i)] f = some (spMt K CM CH kind) ∧ kind g := fun g => by
    cases g with
    | «show» => exact ⟨_, _, wMTshow, tab_mem ndM2 (.head _), rfl⟩
    | head r => exact ⟨_, _, wMThead, tab_mem ndM2 (.tail _ (.head _)), ⟨r, rfl⟩⟩
    | upd r => exact ⟨_, _, wMTupdate, tab_mem ndM2 (.tail _ (.tail _ (.head _))), ⟨r, rfl⟩⟩
    | apply r => exact ⟨_, _, wMTapply, tab_mem ndM2 (.tail _ (.tail _ (.tail _ (.head _)))), ⟨r, rfl⟩⟩
    | seq r s => exact ⟨_, _, wMTseq, tab_mem ndM2 (.tail _ (.tail _ (.tail _ (.tail _ (.tail _ (.tail _ (.head _))))))), ⟨r, s, rfl⟩⟩
    | right r s t => exact ⟨_, _, wMTright, tab_mem ndM2 (.tail _ (.tail _ (.tail _ (.tail _ (.tail _ (.tail _ (.tail _ (.head _)))))))), ⟨r, s, t, rfl⟩⟩
    | prim r s => exact ⟨_, _, wMTprim, tab_mem ndM2 (.tail _ (.tail _ (.tail _ (.tail _ (.tail _ (.tail _ (.tail _ (.tail _ (.head _))))))))), ⟨r, s, rfl⟩⟩
    | ch c r s t =>
      cases c
      · exact ⟨_, _, wMTpick, tab_mem ndM2 (.tail _ (.tail _ (.tail _ (.tail _ (.tail _ (.head _)))))), ⟨r, s, t, rfl⟩⟩
      · exact ⟨_, _, wMTcase, tab_mem ndM2 (.tail _ (.tail _ (.tail _ (.tail _ (.head _))))), ⟨r, s, t, rfl⟩⟩
  have hM : ∀ f sp, tab [(f24, spMt K CM CH fun f => f = .show), (f25, spMt K CM CH fun f => ∃ r, f = .head r), (f26, spMt K CM CH fun f => ∃ a, f = .upd a), (f27, spMt K CM CH fun f => ∃ ws, f = .apply ws), (f28, spMt K CM CH fun f => ∃ rows d ws, f = .ch true rows d ws), (f29, spMt K CM CH fun f => ∃ rows d ws, f = .ch false rows d ws), (f31, spMt K CM CH fun f => ∃ b ws, f = .seq b ws), (f32, spMt K CM CH fun f => ∃ s o ws, f = .right s o ws), (f33, spMt K CM CH fun f => ∃ s i, f = .prim s i)] f = some sp → Held l.prog w K mg base 4 f sp := fun f sp h => by
    have h := tab_of h
    rcases List.mem_cons.mp h with e | h
    · cases e
      exact held_up (held_of CMtShow mMtShow) (by decide)
    rcases List.mem_cons.mp h with e | h
    · cases e
      exact held_up (held_of CMtHead mMtHead) (by decide)
    rcases List.mem_cons.mp h with e | h
    · cases e
      exact held_up (held_of CMtUpd mMtUpd) (by decide)
    rcases List.mem_cons.mp h with e | h
    · cases e
      exact held_up (held_of CMtApply mMtApply) (by decide)
    rcases List.mem_cons.mp h with e | h
    · cases e
      exact held_up (held_of CMtCase mMtCase) (by decide)
    rcases List.mem_cons.mp h with e | h
    · cases e
      exact held_up (held_of CMtPick mMtPick) (by decide)
    rcases List.mem_cons.mp h with e | h
    · cases e
      exact held_up (held_of CMtSeq mMtSeq) (by decide)
    rcases List.mem_cons.mp h with e | h
    · cases e
      exact held_up (held_of CMtRight mMtRight) (by decide)
    rcases List.mem_cons.mp h with e | h
    · cases e
      exact held_up (held_of CMtPrim mMtPrim) (by decide)
    cases h
  have TGo : TxtGo l.prog w K mg base CM CH aEV aMT aSP esEV esMT nEV nMT _ _ := ⟨TM, ⟨ldEV, kdEV, sdEV⟩, ⟨_, PySem.W.mg_of X G gdEV, rfl⟩, mE, hE, ⟨ldMT, kdMT, sdMT⟩, ⟨_, PySem.W.mg_of X G gdMT, rfl⟩, mM, hM⟩
  have CEvaluate := c_evaluate (P := l.prog) (w := w) (base := base) TGo FEvaluate bEvaluate mEvaluate
  have CMeet := c_meet (P := l.prog) (w := w) (base := base) TGo FMeet bMeet mMeet
  have CSizeN := c_sizen (P := l.prog) (w := w) (base := base) TM CSizeE CSizeMt FSizeN bSizeN mSizeN
  have TSp : TxtSp K mg CM aSP := ⟨TM, ⟨_, PySem.W.mg_of X G gtSP, rfl⟩, written_tup (by decide) ltSP ctSP vtSP⟩
  have CStopped := c_stopped (CH := CH) (P := l.prog) (w := w) (base := base) TSp FStopped
  have CCollect : C8.Met l.prog w K mg base 1 CM "collect" (fun _ _ _ _ => False) [] := met_none TM.cl eCollect FCollect bCollect fun _ _ _ _ h => h
  have CHasRoom := c_hasroom (P := l.prog) (w := w) (base := base) (mg := mg) TM CFits CCollect eHasRoom FHasRoom bHasRoom
  have TSt : TxtStep l.prog w K mg base CM CH pStop gStopped _ := ⟨TM, ⟨pa1, pa2, pa3, ⟨_, pa4⟩⟩, CStopped, bStopped⟩
  have CStep := c_step (P := l.prog) (w := w) (base := base) (mg := mg) TSt CSizeN CHasRoom CEnter CEvaluate CMeet eStep FStep bStep
  have CHeap := c_hinit (P := l.prog) (w := w) (base := base) (mg := mg) TH ⟨mkH, maHInit, miHInit, kcH⟩ (PySem.W.mg_of X G aH) FHInit bHInit
  have CMachine := c_minit (P := l.prog) (w := w) (base := base) (mg := mg) ⟨TM, nlen, nenumerate⟩ TH CHeap CMake ⟨mkM, maMInit, miMInit, kcM⟩ (PySem.W.mg_of X G aM) FMInit bMInit
  have hPl : ∀ z k i, (z, k, i) ∈ placesL → ∃ a, PySem.W.nsIn K aPL z = some (some (.ref a)) ∧ ∀ H : Hp, SqT K H a [.str k, .int i] := fun z k i h => by
    simp only [placesL, List.mem_cons, List.not_mem_nil, or_false] at h
    rcases h with h | h | h | h | h | h | h | h | h | h | h | h | h | h
    · cases h
      exact ⟨_, pwcon, written_ki plcon ptcon pvcon⟩
    · cases h
      exact ⟨_, pwpart, written_ki plpart ptpart pvpart⟩
    · cases h
      exact ⟨_, pwlater, written_ki pllater ptlater pvlater⟩
    · cases h
      exact ⟨_, pwon, written_ki plon pton pvon⟩
    · cases h
      exact ⟨_, pwhead, written_ki plhead pthead pvhead⟩
    · cases h
      exact ⟨_, pwupdate, written_ki plupdate ptupdate pvupdate⟩
    · cases h
      exact ⟨_, pwapply, written_ki plapply ptapply pvapply⟩
    · cases h
      exact ⟨_, pwcase, written_ki plcase ptcase pvcase⟩
    · cases h
      exact ⟨_, pwpick, written_ki plpick ptpick pvpick⟩
    · cases h
      exact ⟨_, pwseq, written_ki plseq ptseq pvseq⟩
    · cases h
      exact ⟨_, pwright, written_ki plright ptright pvright⟩
    · cases h
      exact ⟨_, pweval, written_ki pleval pteval pveval⟩
    · cases h
      exact ⟨_, pwvalue, written_ki plvalue ptvalue pvvalue⟩
    · cases h
      exact ⟨_, pwenter, written_ki plenter ptenter pventer⟩
  have TPl : TxtPl w K mg aPL aNO esPL nPL := ⟨⟨ldPL, kdPL, sdPL⟩, ⟨_, PySem.W.mg_of X G gdPL, rfl⟩, ⟨_, PySem.W.mg_of X G gtNO, rfl⟩, written_ki plNO ptNO pvNO, hPl, fun z h => nsIn_out ldPL vdPL h, nlist, ntuple, nlen, nrange⟩
  have TCo : TxtCo K mg CO := ⟨nlen, nlist, nrange, ntuple, ⟨pgO, hdO, poO, saO⟩, noO0, noO1, noO2⟩
  have CWordsIn := c_wordsin (P := l.prog) (w := w) (base := base) TPl FWordsIn bWordsIn mWordsIn
  have CRoots := c_roots (P := l.prog) (w := w) (base := base) TPl CWordsIn FRoots bRoots mRoots
  have CNewWord := c_newword (P := l.prog) (w := w) (base := base) (mg := mg) TCo eNewWord FNewWord bNewWord
  have CRenewed := c_renewed (P := l.prog) (w := w) (base := base) (mg := mg) TCo TPl CWordsIn CNewWord eRenewed FRenewed bRenewed
  have CCollection := c_cinit (P := l.prog) (w := w) (base := base) (mg := mg) TCo ⟨mkO, maCInit, miCInit, kcO⟩ (PySem.W.mg_of X G aO) FCInit bCInit
  have CCollectCells := c_cc (P := l.prog) (w := w) (base := base) TCo CCollection CRoots CNewWord CRenewed FCollectCells bCollectCells mCollectCells
  have CRenew := c_renew (P := l.prog) (w := w) (base := base) (mg := mg) ⟨ndict, nlist, nsum⟩ TH CSize eRenew FRenew bRenew
  have CCollect2 := c_collect (P := l.prog) (w := w) (base := base) (mg := mg) TSt nlen TH CCollectCells CRenew eCollect FCollect bCollect
  have CRunCode := c_runC (P := l.prog) (w := w) (base := base) ⟨TSt, nrange, nlen, ntuple⟩ CMachine CCollect2 CStep FRunCode bRunCode mRunCode
  have TD : TxtD mg := ⟨nlen, nint, nrange, nabs⟩
  have CDraws := c_draws (P := l.prog) (w := w) (base := base) TD FDraws bDraws mDraws
  have CNext := c_next (P := l.prog) (w := w) (base := base) TD FNext bNext mNext
  have CLNeeds := c_lneeds (P := l.prog) (w := w) (base := base) CNext FLNeeds bLNeeds mLNeeds
  exact c_law ⟨nlen, nrange, nint, ntuple⟩ CDraws CNext CLNeeds CRunCode FLaw
theorem walk {l : PySem.W.OpenLaw} {q : Program} {loose : List Str} {XP : (Str → Option Value) → Heap → Prop} {YP : World → Heap → Prop} {d : DefRec} {K : Params → PySem.W.Frag} (hn : l.most = some 63) (hdf : d.params.defaults = [])
    (hY : ∀ (w : World) (h : Heap), YP w h → (K w.params).In h)
    (F : ∀ (w : World) (mg : Str → Option Value) (fa : Addr) (h : Heap), (K w.params).In h → h.Ns mainGlobals mg → mg d.name = some (.ref fa) →
      ∃ fd : FuncData, (∀ (s : Shared) (u : Value), BindsTo s fd ⟨[u], []⟩ [("script", u)]) ∧ ∀ base : Heap, (K w.params).In base → base.Ns mainGlobals mg → FnOk l.prog w (K w.params) mg base CX0 8 fa fd ["script"] (spLaw (K w.params))) :
    PySem.W.WalkO q loose XP YP l.row.toRowW d [] (fun f vs => PySem.call f vs) :=
  L2.walk_of (n := 63) (k := 8) (x := "script") (CX := fun _ => CX0) (sp := fun w => spLaw (K w.params)) hn (by decide) hdf ⟨rfl, by decide, by decide⟩ hY F (fun _ _ a ns hl _ hS => ⟨a, ns, rfl, hS, hl, fun _ => rfl⟩) fun _ _ _ _ _ z => z
end Toy
open PySem PySem.W PyProof.Rows
set_option maxRecDepth 100000 in
set_option maxHeartbeats 0 in
theorem PySem.Challenge.cw_needonce_k70_runs_that_need_themselves_holds : PySem.Challenge.rw_needonce_k70_runs_that_need_themselves.Holds := by
  w_on; o_law; k_head; (case hw => w_witness2)
  k_fill
  refine Toy.walk (l := PySem.Challenge.rw_needonce_k70_runs_that_need_themselves) rfl rfl (fun w h Y => PySem.W.kIn_of Y) ?F
  case F =>
    intro w mg fa h KX G hmg
    refine' Toy.all_mk KX G hmg ?a0 ?l0 ?c0 ?k0 ?a1 ?l1 ?c1 ?k1 ?a2 ?l2 ?c2 ?k2 ?a3 ?l3 ?c3 ?k3 ?a4 ?l4 ?c4 ?k4 ?a5 ?l5 ?c5 ?k5 ?a6 ?l6 ?c6 ?k6 ?a7 ?l7 ?c7 ?k7 ?a8 ?l8 ?c8 ?k8 ?a9 ?l9 ?c9 ?k9 ?a10 ?l10 ?c10 ?k10 ?a11 ?l11 ?c11 ?k11 ?a12 ?l12 ?c12 ?k12 ?a13 ?l13 ?c13 ?k13 ?a14 ?l14 ?c14 ?k14 ?a15 ?l15 ?c15 ?k15 ?a16 ?l16 ?c16 ?k16 ?a17 ?l17 ?c17 ?k17 ?a18 ?l18 ?c18 ?k18 ?a19 ?l19 ?c19 ?k19 ?a20 ?l20 ?c20 ?k20 ?a21 ?l21 ?c21 ?k21 ?a22 ?l22 ?c22 ?k22 ?a23 ?l23 ?c23 ?k23 ?a24 ?l24 ?c24 ?k24 ?a25 ?l25 ?c25 ?k25 ?a26 ?l26 ?c26 ?k26 ?a27 ?l27 ?c27 ?k27 ?a28 ?l28 ?c28 ?k28 ?a29 ?l29 ?c29 ?k29 ?a30 ?l30 ?c30 ?k30 ?a31 ?l31 ?c31 ?k31 ?a32 ?l32 ?c32 ?k32 ?a33 ?l33 ?c33 ?k33 ?a34 ?l34 ?c34 ?k34 ?a35 ?l35 ?c35 ?k35 ?a36 ?l36 ?c36 ?k36 ?a37 ?l37 ?c37 ?k37 ?a38 ?l38 ?c38 ?k38 ?a39 ?l39 ?c39 ?k39 ?a40 ?l40 ?c40 ?k40 ?a41 ?l41 ?c41 ?k41 ?a42 ?l42 ?c42 ?k42 ?cst1 ?cst2 ?gtST ?ltST ?ctST ?vtST ?gtCO ?ltCO ?ctCO ?vtCO ?gtSP ?ltSP ?ctSP ?vtSP ?gtBZ ?ltBZ ?ctBZ ?vtBZ ?gtOV ?ltOV ?ctOV ?vtOV ?gdEV ?ldEV ?kdEV ?sdEV ?wEVgive ?wEVcall ?wEVcon ?wEVprim ?wEVlet ?wEVseq ?wEVcase ?wEVpick ?wEVnote ?gdMT ?ldMT ?kdMT ?sdMT ?wMTshow ?wMThead ?wMTupdate ?wMTapply ?wMTcase ?wMTpick ?wMTseq ?wMTright ?wMTprim ?ndE ?ndM ?gdPL ?ldPL ?kdPL ?sdPL ?vdPL ?gtNO ?pwcon ?plcon ?ptcon ?pvcon ?pwpart ?plpart ?ptpart ?pvpart ?pwlater ?pllater ?ptlater ?pvlater ?pwon ?plon ?pton ?pvon ?pwhead ?plhead ?pthead ?pvhead ?pwupdate ?plupdate ?ptupdate ?pvupdate ?pwapply ?plapply ?ptapply ?pvapply ?pwcase ?plcase ?ptcase ?pvcase ?pwpick ?plpick ?ptpick ?pvpick ?pwseq ?plseq ?ptseq ?pvseq ?pwright ?plright ?ptright ?pvright ?pweval ?pleval ?pteval ?pveval ?pwvalue ?plvalue ?ptvalue ?pvvalue ?pwenter ?plenter ?ptenter ?pventer ?plNO ?ptNO ?pvNO ?aM ?pgM ?hdM ?poM ?saM ?mkM ?kcM ?noM0 ?noM1 ?noM2 ?noM3 ?noM4 ?noM5 ?noM6 ?noM7 ?maMInit ?miMInit ?mlMInit ?mcMInit ?mkMInit ?maStep ?miStep ?mlStep ?mcStep ?mkStep ?maCollect ?miCollect ?mlCollect ?mcCollect ?mkCollect ?maHasRoom ?miHasRoom ?mlHasRoom ?mcHasRoom ?mkHasRoom ?aH ?pgH ?hdH ?poH ?saH ?mkH ?kcH ?noH0 ?noH1 ?noH2 ?noH3 ?maHInit ?miHInit ?mlHInit ?mcHInit ?mkHInit ?maMake ?miMake ?mlMake ?mcMake ?mkMake ?maCell ?miCell ?mlCell ?mcCell ?mkCell ?maPut ?miPut ?mlPut ?mcPut ?mkPut ?maFits ?miFits ?mlFits ?mcFits ?mkFits ?maRenew ?miRenew ?mlRenew ?mcRenew ?mkRenew ?aO ?pgO ?hdO ?poO ?saO ?mkO ?kcO ?noO0 ?noO1 ?noO2 ?maCInit ?miCInit ?mlCInit ?mcCInit ?mkCInit ?maNewWord ?miNewWord ?mlNewWord ?mcNewWord ?mkNewWord ?maRenewed ?miRenewed ?mlRenewed ?mcRenewed ?mkRenewed ?pa1 ?pa2 ?pa3 ?pa4 ?mlStopped ?mcStopped ?mkStopped ?zlen ?zint ?zrange ?zabs ?ztuple ?zmax ?zsum ?zenumerate ?zlist ?zdict
    (case a0 => k_is)
    (case l0 => k_is)
    (case c0 => k_is)
    (case k0 => k_is)
    (case a1 => k_is)
    (case l1 => k_is)
    (case c1 => k_is)
    (case k1 => k_is)
    (case a2 => k_is)
    (case l2 => k_is)
    (case c2 => k_is)
    (case k2 => k_is)
    (case a3 => k_is)
    (case l3 => k_is)
    (case c3 => k_is)
    (case k3 => k_is)
    (case a4 => k_is)
    (case l4 => k_is)
    (case c4 => k_is)
    (case k4 => k_is)
    (case a5 => k_is)
    (case l5 => k_is)
    (case c5 => k_is)
    (case k5 => k_is)
    (case a6 => k_is)
    (case l6 => k_is)
    (case c6 => k_is)
    (case k6 => k_is)
    (case a7 => k_is)
    (case l7 => k_is)
    (case c7 => k_is)
    (case k7 => k_is)
    (case a8 => k_is)
    (case l8 => k_is)
    (case c8 => k_is)
    (case k8 => k_is)
    (case a9 => k_is)
    (case l9 => k_is)
    (case c9 => k_is)
    (case k9 => k_is)
    (case a10 => k_is)
    (case l10 => k_is)
    (case c10 => k_is)
    (case k10 => k_is)
    (case a11 => k_is)
    (case l11 => k_is)
    (case c11 => k_is)
    (case k11 => k_is)
    (case a12 => k_is)
    (case l12 => k_is)
    (case c12 => k_is)
    (case k12 => k_is)
    (case a13 => k_is)
    (case l13 => k_is)
    (case c13 => k_is)
    (case k13 => k_is)
    (case a14 => k_is)
    (case l14 => k_is)
    (case c14 => k_is)
    (case k14 => k_is)
    (case a15 => k_is)
    (case l15 => k_is)
    (case c15 => k_is)
    (case k15 => k_is)
    (case a16 => k_is)
    (case l16 => k_is)
    (case c16 => k_is)
    (case k16 => k_is)
    (case a17 => k_is)
    (case l17 => k_is)
    (case c17 => k_is)
    (case k17 => k_is)
    (case a18 => k_is)
    (case l18 => k_is)
    (case c18 => k_is)
    (case k18 => k_is)
    (case a19 => k_is)
    (case l19 => k_is)
    (case c19 => k_is)
    (case k19 => k_is)
    (case a20 => k_is)
    (case l20 => k_is)
    (case c20 => k_is)
    (case k20 => k_is)
    (case a21 => k_is)
    (case l21 => k_is)
    (case c21 => k_is)
    (case k21 => k_is)
    (case a22 => k_is)
    (case l22 => k_is)
    (case c22 => k_is)
    (case k22 => k_is)
    (case a23 => k_is)
    (case l23 => k_is)
    (case c23 => k_is)
    (case k23 => k_is)
    (case a24 => k_is)
    (case l24 => k_is)
    (case c24 => k_is)
    (case k24 => k_is)
    (case a25 => k_is)
    (case l25 => k_is)
    (case c25 => k_is)
    (case k25 => k_is)
    (case a26 => k_is)
    (case l26 => k_is)
    (case c26 => k_is)
    (case k26 => k_is)
    (case a27 => k_is)
    (case l27 => k_is)
    (case c27 => k_is)
    (case k27 => k_is)
    (case a28 => k_is)
    (case l28 => k_is)
    (case c28 => k_is)
    (case k28 => k_is)
    (case a29 => k_is)
    (case l29 => k_is)
    (case c29 => k_is)
    (case k29 => k_is)
    (case a30 => k_is)
    (case l30 => k_is)
    (case c30 => k_is)
    (case k30 => k_is)
    (case a31 => k_is)
    (case l31 => k_is)
    (case c31 => k_is)
    (case k31 => k_is)
    (case a32 => k_is)
    (case l32 => k_is)
    (case c32 => k_is)
    (case k32 => k_is)
    (case a33 => k_is)
    (case l33 => k_is)
    (case c33 => k_is)
    (case k33 => k_is)
    (case a34 => k_is)
    (case l34 => k_is)
    (case c34 => k_is)
    (case k34 => k_is)
    (case a35 => k_is)
    (case l35 => k_is)
    (case c35 => k_is)
    (case k35 => k_is)
    (case a36 => k_is)
    (case l36 => k_is)
    (case c36 => k_is)
    (case k36 => k_is)
    (case a37 => k_is)
    (case l37 => k_is)
    (case c37 => k_is)
    (case k37 => k_is)
    (case a38 => k_is)
    (case l38 => k_is)
    (case c38 => k_is)
    (case k38 => k_is)
    (case a39 => k_is)
    (case l39 => k_is)
    (case c39 => k_is)
    (case k39 => k_is)
    (case a40 => k_is)
    (case l40 => k_is)
    (case c40 => k_is)
    (case k40 => k_is)
    (case a41 => k_is)
    (case l41 => k_is)
    (case c41 => k_is)
    (case k41 => k_is)
    (case a42 => k_is)
    (case l42 => k_is)
    (case c42 => k_is)
    (case k42 => k_is)
    (case cst1 => k_is)
    (case cst2 => k_is)
    (case gtST => k_is)
    (case ltST => k_is)
    (case ctST => rfl)
    (case vtST => decide +kernel)
    (case gtCO => k_is)
    (case ltCO => k_is)
    (case ctCO => rfl)
    (case vtCO => decide +kernel)
    (case gtSP => k_is)
    (case ltSP => k_is)
    (case ctSP => rfl)
    (case vtSP => decide +kernel)
    (case gtBZ => k_is)
    (case ltBZ => k_is)
    (case ctBZ => rfl)
    (case vtBZ => decide +kernel)
    (case gtOV => k_is)
    (case ltOV => k_is)
    (case ctOV => rfl)
    (case vtOV => decide +kernel)
    (case gdEV => k_is)
    (case ldEV => k_is)
    (case kdEV => exact ⟨⟨_, _, rfl, rfl⟩, ⟨_, _, rfl, rfl⟩, ⟨_, _, rfl, rfl⟩, ⟨_, _, rfl, rfl⟩, ⟨_, _, rfl, rfl⟩, ⟨_, _, rfl, rfl⟩, ⟨_, _, rfl, rfl⟩, ⟨_, _, rfl, rfl⟩, ⟨_, _, rfl, rfl⟩, trivial⟩)
    (case sdEV => rfl)
    (case wEVgive => k_is)
    (case wEVcall => k_is)
    (case wEVcon => k_is)
    (case wEVprim => k_is)
    (case wEVlet => k_is)
    (case wEVseq => k_is)
    (case wEVcase => k_is)
    (case wEVpick => k_is)
    (case wEVnote => k_is)
    (case gdMT => k_is)
    (case ldMT => k_is)
    (case kdMT => exact ⟨⟨_, _, rfl, rfl⟩, ⟨_, _, rfl, rfl⟩, ⟨_, _, rfl, rfl⟩, ⟨_, _, rfl, rfl⟩, ⟨_, _, rfl, rfl⟩, ⟨_, _, rfl, rfl⟩, ⟨_, _, rfl, rfl⟩, ⟨_, _, rfl, rfl⟩, ⟨_, _, rfl, rfl⟩, trivial⟩)
    (case sdMT => rfl)
    (case wMTshow => k_is)
    (case wMThead => k_is)
    (case wMTupdate => k_is)
    (case wMTapply => k_is)
    (case wMTcase => k_is)
    (case wMTpick => k_is)
    (case wMTseq => k_is)
    (case wMTright => k_is)
    (case wMTprim => k_is)
    (case ndE => decide)
    (case ndM => decide)
    (case gdPL => k_is)
    (case ldPL => k_is)
    (case kdPL => exact ⟨⟨_, _, rfl, rfl⟩, ⟨_, _, rfl, rfl⟩, ⟨_, _, rfl, rfl⟩, ⟨_, _, rfl, rfl⟩, ⟨_, _, rfl, rfl⟩, ⟨_, _, rfl, rfl⟩, ⟨_, _, rfl, rfl⟩, ⟨_, _, rfl, rfl⟩, ⟨_, _, rfl, rfl⟩, ⟨_, _, rfl, rfl⟩, ⟨_, _, rfl, rfl⟩, ⟨_, _, rfl, rfl⟩, ⟨_, _, rfl, rfl⟩, ⟨_, _, rfl, rfl⟩, trivial⟩)
    (case sdPL => rfl)
    (case vdPL => rfl)
    (case gtNO => k_is)
    (case pwcon => k_is)
    (case plcon => k_is)
    (case ptcon => rfl)
    (case pvcon => decide +kernel)
    (case pwpart => k_is)
    (case plpart => k_is)
    (case ptpart => rfl)
    (case pvpart => decide +kernel)
    (case pwlater => k_is)
    (case pllater => k_is)
    (case ptlater => rfl)
    (case pvlater => decide +kernel)
    (case pwon => k_is)
    (case plon => k_is)
    (case pton => rfl)
    (case pvon => decide +kernel)
    (case pwhead => k_is)
    (case plhead => k_is)
    (case pthead => rfl)
    (case pvhead => decide +kernel)
    (case pwupdate => k_is)
    (case plupdate => k_is)
    (case ptupdate => rfl)
    (case pvupdate => decide +kernel)
    (case pwapply => k_is)
    (case plapply => k_is)
    (case ptapply => rfl)
    (case pvapply => decide +kernel)
    (case pwcase => k_is)
    (case plcase => k_is)
    (case ptcase => rfl)
    (case pvcase => decide +kernel)
    (case pwpick => k_is)
    (case plpick => k_is)
    (case ptpick => rfl)
    (case pvpick => decide +kernel)
    (case pwseq => k_is)
    (case plseq => k_is)
    (case ptseq => rfl)
    (case pvseq => decide +kernel)
    (case pwright => k_is)
    (case plright => k_is)
    (case ptright => rfl)
    (case pvright => decide +kernel)
    (case pweval => k_is)
    (case pleval => k_is)
    (case pteval => rfl)
    (case pveval => decide +kernel)
    (case pwvalue => k_is)
    (case plvalue => k_is)
    (case ptvalue => rfl)
    (case pvvalue => decide +kernel)
    (case pwenter => k_is)
    (case plenter => k_is)
    (case ptenter => rfl)
    (case pventer => decide +kernel)
    (case plNO => k_is)
    (case ptNO => rfl)
    (case pvNO => decide +kernel)
    (case aM => k_is)
    (case pgM => k_is)
    (case hdM => k_is)
    (case poM => k_is)
    (case saM => k_is)
    (case mkM => k_is)
    (case kcM => k_is)
    (case noM0 => k_is)
    (case noM1 => k_is)
    (case noM2 => k_is)
    (case noM3 => k_is)
    (case noM4 => k_is)
    (case noM5 => k_is)
    (case noM6 => k_is)
    (case noM7 => k_is)
    (case maMInit => k_is)
    (case miMInit => k_is)
    (case mlMInit => k_is)
    (case mcMInit => k_is)
    (case mkMInit => k_is)
    (case maStep => k_is)
    (case miStep => k_is)
    (case mlStep => k_is)
    (case mcStep => k_is)
    (case mkStep => k_is)
    (case maCollect => k_is)
    (case miCollect => k_is)
    (case mlCollect => k_is)
    (case mcCollect => k_is)
    (case mkCollect => k_is)
    (case maHasRoom => k_is)
    (case miHasRoom => k_is)
    (case mlHasRoom => k_is)
    (case mcHasRoom => k_is)
    (case mkHasRoom => k_is)
    (case aH => k_is)
    (case pgH => k_is)
    (case hdH => k_is)
    (case poH => k_is)
    (case saH => k_is)
    (case mkH => k_is)
    (case kcH => k_is)
    (case noH0 => k_is)
    (case noH1 => k_is)
    (case noH2 => k_is)
    (case noH3 => k_is)
    (case maHInit => k_is)
    (case miHInit => k_is)
    (case mlHInit => k_is)
    (case mcHInit => k_is)
    (case mkHInit => k_is)
    (case maMake => k_is)
    (case miMake => k_is)
    (case mlMake => k_is)
    (case mcMake => k_is)
    (case mkMake => k_is)
    (case maCell => k_is)
    (case miCell => k_is)
    (case mlCell => k_is)
    (case mcCell => k_is)
    (case mkCell => k_is)
    (case maPut => k_is)
    (case miPut => k_is)
    (case mlPut => k_is)
    (case mcPut => k_is)
    (case mkPut => k_is)
    (case maFits => k_is)
    (case miFits => k_is)
    (case mlFits => k_is)
    (case mcFits => k_is)
    (case mkFits => k_is)
    (case maRenew => k_is)
    (case miRenew => k_is)
    (case mlRenew => k_is)
    (case mcRenew => k_is)
    (case mkRenew => k_is)
    (case aO => k_is)
    (case pgO => k_is)
    (case hdO => k_is)
    (case poO => k_is)
    (case saO => k_is)
    (case mkO => k_is)
    (case kcO => k_is)
    (case noO0 => k_is)
    (case noO1 => k_is)
    (case noO2 => k_is)
    (case maCInit => k_is)
    (case miCInit => k_is)
    (case mlCInit => k_is)
    (case mcCInit => k_is)
    (case mkCInit => k_is)
    (case maNewWord => k_is)
    (case miNewWord => k_is)
    (case mlNewWord => k_is)
    (case mcNewWord => k_is)
    (case mkNewWord => k_is)
    (case maRenewed => k_is)
    (case miRenewed => k_is)
    (case mlRenewed => k_is)
    (case mcRenewed => k_is)
    (case mkRenewed => k_is)
    (case pa1 => k_is)
    (case pa2 => k_is)
    (case pa3 => k_is)
    (case pa4 => k_is)
    (case mlStopped => k_is)
    (case mcStopped => k_is)
    (case mkStopped => k_is)
    (case zlen => k_is)
    (case zint => k_is)
    (case zrange => k_is)
    (case zabs => k_is)
    (case ztuple => k_is)
    (case zmax => k_is)
    (case zsum => k_is)
    (case zenumerate => k_is)
    (case zlist => k_is)
    (case zdict => k_is)

