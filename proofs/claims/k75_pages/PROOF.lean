import PyProof.Rows.All
import Wide.All
import OpenK.AllK
import Wide.FinOn
import HandS.ForMost
import HandS.IsInst
import KE.OsScanText
import HandS.Codes
import HandS.Conv
import HandS.StrMore
import KE.KStrWords
import KE.KxText
import HandS.SortInts
import HandS.More
import PySem.Challenge.RW_needonce_k75_pages
set_option Elab.async false
set_option maxRecDepth 100000
set_option maxHeartbeats 4000000
/-! Part A: how defs are called, the drawing of numbers from the script. -/
namespace Toy
open PySem L2
open PyProof.Rows (envOfC)
def topS (i : Nat) : Stmt := PySem.Challenge.pw_needonce_k75_pages.main.body.getD i (.Pass ⟨0, 0, 0, 0⟩)
theorem boot_min : bootBuiltins "min" = some (.builtin "min") := by decide +kernel
theorem boot_isinstance : bootBuiltins "isinstance" = some (.builtin "isinstance") := by decide +kernel
theorem boot_abs : bootBuiltins "abs" = some (.builtin "abs") := by decide +kernel
theorem boot_int : bootBuiltins "int" = some (.type "int") := by decide +kernel
theorem boot_list : bootBuiltins "list" = some (.type "list") := by decide +kernel
/-- a written row of texts: what it is -/
def tStrs (zs : List Str) : TA := fun _ H Q => Q (zs.map V.str) H
def strE : Expr → Option Str
  | .Constant (.str z) _ _ => some z
  | _ => none
theorem strE_is {e : Expr} {z : Str} (h : strE e = some z) : ∃ j pos, e = .Constant (.str z) j pos := by
  unfold strE at h
  split at h
  · cases h
    exact ⟨_, _, rfl⟩
  · cases h
/-- a written row of texts -/
theorem pa_strs {X : Cx} : ∀ {es : List Expr} {zs : List Str}, es.map strE = zs.map some → PA X es (tStrs zs)
  | [], [], _ => pa_nil
  | [], _ :: _, h => by cases h
  | _ :: _, [], h => by cases h
  | e :: es, z :: zs, h => by
    rw [List.map_cons, List.map_cons] at h
    obtain ⟨h1, h2⟩ := List.cons.inj h
    obtain ⟨j, pos, rfl⟩ := strE_is h1
    exact pa_cons pe_str (pa_strs h2)
theorem strs_read {zs : List Str} {σ : L2.St} {H : Hp} {Q : List V → Hp → Prop} (h : Q (zs.map V.str) H) : tStrs zs σ H Q := h
/-- what the proofs ask of the module's names -/
structure TxtD (mg : Str → Option Value) : Prop where
  zlen : mg "len" = none
  zint : mg "int" = none
  zrange : mg "range" = none
  zabs : mg "abs" = none
section
variable {P : Program} {w : World} {K : PySem.W.Frag} {mg : Str → Option Value} {base : Heap} 
/-- a def as one that may be called by its name -/
theorem cal_of {x : Str} {st : Stmt} {f : Addr} {fd : FuncData} {N ps : List Str} {k : Nat} {sp : Sp} (F : Fun K x x st f fd) (hm : mg x = some (.ref f)) (b : Binds K fd ps []) (S : FnScope N ps (defScope st)) (len : ∀ vs H Q E, sp vs H Q E → vs.length = ps.length)
    (hbody : ∀ (cdv : Value) (A : Around) (outer : List Env) (s : Shared) (H : Hp) (vs : List V) (Q : VK) (E : XK), Room k (A.deeper (envOfC x (defScope st) s.heap.objs.size f cdv)) → sp vs H Q E →
      ∃ t, PSs (cxOf CX0 P w K mg base N x (defScope st) f cdv A outer s H E).nox (defBody st) t ∧ t { nx := fun _ H' => Q .non H', rt := Q } (start N vs) H) : C8.Cal P w K mg base (k + 1) x sp [] :=
  ⟨f, fd, ps, [], F.ok S len hbody, hm, F.kp, b, .nil⟩
theorem same_new {H : Hp} {p : Addr} (h : H p = none) (o : HO) : Same H (upd H p o) := fun b u q => by rw [upd_ne (ne_of_none q h)]; exact q
theorem same_upd {H H' : Hp} {p : Addr} (h : H p = none) (s : Same H H') (o : HO) : Same H (upd H' p o) := fun b u q => by rw [upd_ne (ne_of_none q h)]; exact s b u q
theorem szl {n : Nat} (h : n ≤ 100000) : n < sizeLine := Nat.lt_of_le_of_lt h (by decide)
theorem at_ok {α : Type} {xs : List α} {k : Nat} (h : k < xs.length) : atI xs (0 + (k : Int)) = some xs[k] := by
  rw [Int.zero_add]
  exact atI_nat (List.getElem?_eq_getElem h)
theorem at_int {ns : List Int} {i : Int} (h0 : 0 ≤ i) (h1 : i < (ns.length : Int)) : ∃ v : Int, atI (ns.map V.int) i = some (.int v) := by
  have hk : i.toNat < ns.length := by omega
  refine ⟨ns[i.toNat], ?_⟩
  have q : atI (ns.map V.int) ((i.toNat : Nat) : Int) = some (.int ns[i.toNat]) := atI_nat (by rw [List.getElem?_map, List.getElem?_eq_getElem hk] <;> rfl)
  rw [show ((i.toNat : Nat) : Int) = i by omega] at q
  exact q

/-! ### the draws of a script -/
def dk2 (r : Addr) (i : Int) : List (Key × V) := [(Sum.inr "draws", .ref r), (Sum.inr "at", .int i)]
theorem nk_da : ¬ (Sum.inr ("draws" : Str) : Key) = Sum.inr ("at" : Str) := by decide +kernel
theorem dk_draws (r : Addr) (i : Int) : valV (dk2 r i) (Sum.inr "draws" : Key) = some (.ref r) := valV_pos rfl
theorem dk_at (r : Addr) (i : Int) : valV (dk2 r i) (Sum.inr "at" : Key) = some (.int i) := (valV_neg nk_da).trans (valV_pos rfl)
theorem dk_put (r : Addr) (i j : Int) : putK (dk2 r i) (Sum.inr "at" : Key) (.int j) = dk2 r j := by
  have h1 : ¬ ("draws" : Str) = "at" := by decide +kernel
  simp [putK, dk2, h1]
theorem dk_merge (r : Addr) : mergeK [] [(Sum.inr "draws", .ref r), (Sum.inr "at", .int 0)] = dk2 r 0 := by
  have h1 : ¬ ("draws" : Str) = "at" := by decide +kernel
  simp [mergeK, putK, dk2, h1]
/-- a reader of draws stands at p -/
def DrawsAt (H : Hp) (p r : Addr) : Prop := ∃ (row : List Int) (i : Nat), H p = some (.dK (dk2 r (i : Int))) ∧ H r = some (.lst (row.map V.int))
theorem DrawsAt.same {H H' : Hp} {p r : Addr} (d : DrawsAt H p r) (s : Same H H') : DrawsAt H' p r := by
  obtain ⟨row, i, h1, h2⟩ := d
  exact ⟨row, i, s _ _ h1, s _ _ h2⟩
theorem DrawsAt.fresh {H : Hp} {p r x : Addr} (d : DrawsAt H p r) (hx : H x = none) : x ≠ p ∧ x ≠ r := by
  obtain ⟨row, i, h1, h2⟩ := d
  exact ⟨fun e => (by rw [e, h1] at hx; cases hx), fun e => (by rw [e, h2] at hx; cases hx)⟩
theorem DrawsAt.off {H : Hp} {p r x : Addr} (d : DrawsAt H p r) (h1 : x ≠ p) (h2 : x ≠ r) (o : HO) : DrawsAt (upd H x o) p r := by
  obtain ⟨row, i, g1, g2⟩ := d
  exact ⟨row, i, by rw [upd_ne h1.symm]; exact g1, by rw [upd_ne h2.symm]; exact g2⟩
/-- all but p stays -/
def Keep (p : Addr) (H H' : Hp) : Prop := ∀ b o, b ≠ p → H b = some o → H' b = some o
abbrev sNext : Stmt := topS 4
theorem scNext : FnScope ["w", "many"] ["w", "many"] (defScope sNext) := ⟨rfl, rfl, rfl, by decide +kernel, rfl, by decide +kernel, by decide +kernel⟩
/-- some number below m; the reader moves on -/
def spNext : Sp := fun vs H Q _ => ∃ (p r : Addr) (m : Int), vs = [.ref p, .int m] ∧ 0 < m ∧ DrawsAt H p r ∧ ∀ (n : Int) (H' : Hp), 0 ≤ n → n < m → Keep p H H' → DrawsAt H' p r → Q (.int n) H'
theorem c_next {f : Addr} {fd : FuncData} (T : TxtD mg) (F : Fun K "_law_next" "_law_next" sNext f fd) (b : Binds K fd ["w", "many"] []) (hm : mg "_law_next" = some (.ref f)) : C8.Cal P w K mg base 2 "_law_next" spNext [] := by
  refine cal_of F hm b scNext (fun vs H Q E h => ?_) (fun cdv A outer s H vs Q E hr h => ?_)
  · obtain ⟨p, r, m, rfl, _⟩ := h
    rfl
  obtain ⟨p, r, m, rfl, hm0, ⟨row, i, hp, hrow⟩, q⟩ := h
  have hu := hu_of hr
  have npr : r ≠ p := ne_of hrow hp (by intro z; cases z)
  refine ⟨_, (pss_cons (ps_daug hu (pv 0) pe_str pe_int ip_add (fun _ _ _ => rfl))
    (pss_cons (ps_if (pt_cmpR op_gt (pe_dget hu (pv 0) pe_str (fun _ _ => rfl)) (pe_callB call_len_seq rfl T.zlen PySem.boot_len (pa_cons (pe_dget hu (pv 0) pe_str (fun _ _ => rfl)) pa_nil)) (nomark _))
      (pss_one (ps_ret pe_int))
      pss_nil)
    (pss_one (ps_ret (pe_op op_mod (pe_callTy call_int1 rfl T.zint boot_int (pa_cons (pe_ix ix_list (pe_dget hu (pv 0) pe_str (fun _ _ => rfl)) (pe_op op_sub (pe_dget hu (pv 0) pe_str (fun _ _ => rfl)) pe_int) (fun _ _ => rfl)) pa_nil)) (pv 1)))))), ?_⟩
  refine ⟨_, rfl, p, _, rfl, (dk_at r i ▸ DGet.k (k := Sum.inr "at") hp), ?_⟩
  refine ⟨_, _, rfl, rfl, _, DPut.k (k := Sum.inr "at") hp (by show 2 < sizeLine; decide), ?_⟩
  rw [dk_put]
  have hp2 : upd H p (.dK (dk2 r ((i : Int) + 1))) p = some (.dK (dk2 r ((i : Int) + 1))) := upd_same
  have hr2 : upd H p (.dK (dk2 r ((i : Int) + 1))) r = some (.lst (row.map V.int)) := by rw [upd_ne npr]; exact hrow
  have fin : ∀ n : Int, 0 ≤ n → n < m → Q (.int n) (upd H p (.dK (dk2 r ((i : Int) + 1)))) := fun n h0 h1 =>
    q n _ h0 h1 (fun b o hb e => by rw [upd_ne hb]; exact e) ⟨row, i + 1, by rw [upd_same]; rfl, hr2⟩
  refine ⟨_, rfl, p, _, rfl, (dk_at r _ ▸ DGet.k (k := Sum.inr "at") hp2), _, rfl, p, _, rfl, (dk_draws r _ ▸ DGet.k (k := Sum.inr "draws") hp2), r, _, rfl, .inl (SqL.of hr2), _, _, rfl, rfl, _, rfl, ?_⟩
  refine ite2 (fun c => ?_) (fun c => ?_)
  · exact fin 0 (by omega) hm0
  · have c' : ¬ (i : Int) + 1 > (((row.map V.int).length : Nat) : Int) := fun z => c (decide_eq_true z)
    rw [List.length_map] at c'
    obtain ⟨v, hv⟩ := at_int (ns := row) (i := (i : Int) + 1 - 1) (by omega) (by omega)
    refine ⟨_, rfl, p, _, rfl, (dk_draws r _ ▸ DGet.k (k := Sum.inr "draws") hp2), _, rfl, p, _, rfl, (dk_at r _ ▸ DGet.k (k := Sum.inr "at") hp2), _, _, rfl, rfl, r, _, _, _, rfl, rfl, SqL.of hr2, hv, .inl ⟨_, rfl, ?_⟩⟩
    refine ⟨_, rfl, _, _, rfl, rfl, hm0, ?_⟩
    exact fin _ (Int.emod_nonneg _ (by omega)) (Int.emod_lt_of_pos _ hm0)
abbrev sDraws : Stmt := topS 3
theorem scDraws : FnScope ["script", "many", "draws", "mixed", "k", "cell", "rest", "turn"] ["script", "many"] (defScope sDraws) := ⟨rfl, rfl, rfl, by decide +kernel, rfl, by decide +kernel, by decide +kernel⟩
/-- some row of whole numbers -/
def spDraws (K : PySem.W.Frag) : Sp := fun vs H Q _ => ∃ (a : Addr) (ns : List Int) (m : Nat), vs = [.ref a, .int (m : Int)] ∧ SqL K H a (ns.map V.int) ∧ ns.length ≤ 63 ∧ m ≤ 1000 ∧ ∀ (r : Addr) (row : List Int) (H' : Hp), H r = none → Same H H' → H' r = some (.lst (row.map V.int)) → Q (.ref r) H'
theorem cut_ints (row : List Int) (lo hi : Option Int) : ∃ row' : List Int, cutV (row.map V.int) lo hi = row'.map V.int := by
  unfold cutV
  simp only [← List.map_drop, ← List.map_take]
  exact ⟨_, rfl⟩
theorem c_draws {f : Addr} {fd : FuncData} (T : TxtD mg) (F : Fun K "_law_draws" "_law_draws" sDraws f fd) (b : Binds K fd ["script", "many"] []) (hm : mg "_law_draws" = some (.ref f)) : C8.Cal P w K mg base 1 "_law_draws" (spDraws K) [] := by
  refine cal_of F hm b scDraws (fun vs H Q E h => ?_) (fun cdv A outer s H vs Q E hr h => ?_)
  · obtain ⟨a, ns, m, rfl, _⟩ := h
    rfl
  obtain ⟨a, ns, m, rfl, hS, h63, hm1, q⟩ := h
  refine ⟨_, (pss_cons (ps_set (i := 2) scDraws.nd rfl (Or.inl rfl) (pe_lst pa_nil))
    (pss_cons (ps_set (i := 3) scDraws.nd rfl (Or.inl rfl) pe_int)
    (pss_cons (ps_for PassesOwn.never rfl (pi_range1 rfl T.zrange (pa_cons (pe_callB call_len_seq rfl T.zlen PySem.boot_len (pa_cons (pv 0) pa_nil)) pa_nil)) (pg_name (i := 4) scDraws.nd rfl (Or.inl rfl))
      (pss_cons (ps_set (i := 5) scDraws.nd rfl (Or.inl rfl) (pe_callB call_abs rfl T.zabs boot_abs (pa_cons (pe_callTy call_int1 rfl T.zint boot_int (pa_cons (pe_ix ix_list (pv 0) (pv 4) (fun _ _ => rfl)) pa_nil)) pa_nil)))
    (pss_cons (ps_set (i := 3) scDraws.nd rfl (Or.inl rfl) (pe_op op_mod (pe_callTy call_int1 rfl T.zint boot_int (pa_cons (pe_op op_add (pe_op op_add (pe_op op_mul (pv 3) pe_int) (pe_op op_mod (pv 5) pe_int)) (pv 4)) pa_nil)) pe_int))
    (pss_cons (ps_set (i := 6) scDraws.nd rfl (Or.inl rfl) pe_int)
    (C8.pss_cut (ps_if (pt_cmpR op_ge (pv 5) (pe_op op_pow pe_int pe_int) (nomark _))
      (pss_one (ps_set (i := 6) scDraws.nd rfl (Or.inl rfl) (pv 5)))
      (pss_cons (ps_expr (pe_bm PySem.F.plainAttrs_list PySem.F.slot_list_append PySem.F.type_list_append mt_append (pv 2) (pa_cons (pe_op op_mod (pe_callTy call_int1 rfl T.zint boot_int (pa_cons (pv 5) pa_nil)) pe_int) pa_nil)))
    (pss_one (ps_expr (pe_bm PySem.F.plainAttrs_list PySem.F.slot_list_append PySem.F.type_list_append mt_append (pv 2) (pa_cons (pe_op op_mod (pe_op op_mod (pe_callTy call_int1 rfl T.zint boot_int (pa_cons (pe_op op_add (pe_op op_mul (pv 3) pe_int) pe_int) pa_nil)) pe_int) pe_int) pa_nil))))))
    (pss_one (ps_for PassesOwn.never rfl (pi_range1 rfl T.zrange (pa_cons pe_int pa_nil)) (pg_name (i := 7) scDraws.nd rfl (Or.inl rfl))
      (pss_one (ps_if (pt_cmpR op_gt (pv 6) pe_int (nomark _))
      (pss_cons (ps_expr (pe_bm PySem.F.plainAttrs_list PySem.F.slot_list_append PySem.F.type_list_append mt_append (pv 2) (pa_cons (pe_op op_mod (pe_callTy call_int1 rfl T.zint boot_int (pa_cons (pv 6) pa_nil)) pe_int) pa_nil)))
    (pss_one (ps_set (i := 6) scDraws.nd rfl (Or.inl rfl) (pe_op op_fdiv (pv 6) pe_int))))
      pss_nil)))))))))
    (pss_cons (ps_for PassesOwn.never rfl (pi_range1 rfl T.zrange (pa_cons (pv 1) pa_nil)) (pg_name (i := 4) scDraws.nd rfl (Or.inl rfl))
      (pss_cons (ps_set (i := 3) scDraws.nd rfl (Or.inl rfl) (pe_op op_mod (pe_callTy call_int1 rfl T.zint boot_int (pa_cons (pe_op op_add (pe_op op_add (pe_op op_mul (pv 3) pe_int) (pv 4)) pe_int) pa_nil)) pe_int))
    (pss_one (ps_expr (pe_bm PySem.F.plainAttrs_list PySem.F.slot_list_append PySem.F.type_list_append mt_append (pv 2) (pa_cons (pe_op op_mod (pe_callTy call_int1 rfl T.zint boot_int (pa_cons (pv 3) pa_nil)) pe_int) pa_nil))))))
    (pss_one (ps_ret (pe_slice sl_list (pv 2) po_none (po_some (pv 1))))))))), ?_⟩
  refine ⟨(by show 0 ≤ sizeLine; decide), fun r hr0 => ?_⟩
  refine ⟨_, rfl, a, _, rfl, .inl ((same_new hr0 _).seq hS), _, rfl, ?_, ?_, for_range
    (fun (k : Nat) σ H2 => ∃ (kk c t x : Option V) (mx : Int) (row : List Int), σ = [some (.ref a), some (.int (m : Int)), some (.ref r), some (.int mx), kk, c, t, x] ∧ Same H H2 ∧ H2 r = some (.lst (row.map V.int)) ∧ row.length ≤ 62 * k)
    ⟨none, none, none, none, 7, [], rfl, same_new hr0 _, upd_same, by simp⟩ ?_ ?_⟩
  · omega
  · rw [List.length_map]
    omega
  · rintro k σ H2 hk ⟨kk, c, t, x, mx, row, rfl, s2, hrow, hl⟩
    have hk' : (k : Int) < (ns.length : Int) := by
      rw [List.length_map] at hk
      omega
    obtain ⟨v, hv⟩ := at_int (ns := ns) (i := 0 + (k : Int)) (by omega) (by omega)
    refine ⟨_, rfl, _, rfl, a, _, _, _, rfl, rfl, s2.seq hS, hv, .inl ⟨_, rfl, _, rfl, ?_⟩⟩
    refine ⟨_, rfl, _, _, rfl, rfl, .inr (by decide), _, rfl, _, _, rfl, rfl, (show (0 : Int) < 1000003 by decide), _, _, rfl, rfl, _, rfl, _, _, rfl, rfl, .inl ⟨_, rfl, _, _, rfl, rfl, (show (0 : Int) < 65537 by decide), ?_⟩⟩
    refine ⟨fun σ H3 => ∃ (c : Option V) (mx x : Int) (t : Option V) (row : List Int), σ = [some (.ref a), some (.int (m : Int)), some (.ref r), some (.int mx), some (.int (0 + (k : Int))), c, some (.int x), t] ∧ Same H H3 ∧ H3 r = some (.lst (row.map V.int)) ∧ row.length ≤ 62 * k + 2, ?_, ?_⟩
    · refine ⟨_, rfl, _, _, rfl, rfl, ⟨by decide, by decide, by decide⟩, _, _, rfl, rfl, _, rfl, ?_⟩
      refine ite2 (fun _ => ?_) (fun _ => ?_)
      · exact ⟨_, rfl, _, _, _, _, row, rfl, s2, hrow, by omega⟩
      · refine ⟨_, rfl, .inl ⟨rfl, _, SqL.of hrow⟩, _, rfl, .inl ⟨_, rfl, _, _, rfl, rfl, (show (0 : Int) < 997 by decide), r, _, _, rfl, rfl, hrow, szl (by rw [List.length_map]; omega), ?_⟩⟩
        have e3 : ∀ z : Int, upd H2 r (.lst (row.map V.int ++ [.int z])) r = some (.lst ((row ++ [z]).map V.int)) := fun z => by rw [upd_same, List.map_append]; rfl
        have s3 : ∀ z : Int, Same H (upd H2 r (.lst (row.map V.int ++ [.int z]))) := fun z => same_upd hr0 s2 _
        refine ⟨_, rfl, .inl ⟨rfl, _, SqL.of (e3 _)⟩, _, rfl, _, _, rfl, rfl, .inr (by decide), _, _, rfl, rfl, .inl ⟨_, rfl, _, _, rfl, rfl, (show (0 : Int) < 65521 by decide), _, _, rfl, rfl, (show (0 : Int) < 997 by decide), r, _, _, rfl, rfl, e3 _, szl (by rw [List.length_map, List.length_append]; show _ + 1 ≤ _; omega), ?_⟩⟩
        refine ⟨_, _, _, _, row ++ [_] ++ [_], rfl, same_upd hr0 (s3 _) _, by rw [upd_same]; simp only [List.map_append]; rfl, ?_⟩
        rw [List.length_append, List.length_append]
        show row.length + 1 + 1 ≤ _
        omega
    rintro σ H3 ⟨c, mx, x, t, row, rfl, s3, hrow, hl⟩
    refine ⟨60, rfl, by decide, by decide, for_range (fun (j : Nat) σ H3 => ∃ (c : Option V) (mx x : Int) (t : Option V) (row : List Int), σ = [some (.ref a), some (.int (m : Int)), some (.ref r), some (.int mx), some (.int (0 + (k : Int))), c, some (.int x), t] ∧ Same H H3 ∧ H3 r = some (.lst (row.map V.int)) ∧ row.length ≤ 62 * k + 2 + j)
      ⟨_, _, _, _, row, rfl, s3, hrow, by omega⟩ ?_ ?_⟩
    · rintro j σ H3 hj ⟨c, mx, x, t, row, rfl, s3, hrow, hl⟩
      refine ⟨_, rfl, _, _, rfl, rfl, _, rfl, ?_⟩
      refine ite2 (fun _ => ?_) (fun _ => ?_)
      · refine ⟨_, rfl, .inl ⟨rfl, _, SqL.of hrow⟩, _, rfl, .inl ⟨_, rfl, _, _, rfl, rfl, (show (0 : Int) < 997 by decide), r, _, _, rfl, rfl, hrow, szl (by rw [List.length_map]; omega), ?_⟩⟩
        refine ⟨_, rfl, _, _, rfl, rfl, ⟨by decide, by decide⟩, ?_⟩
        refine ⟨_, _, _, _, row ++ [_], rfl, same_upd hr0 s3 _, by rw [upd_same, List.map_append]; rfl, ?_⟩
        rw [List.length_append]
        show row.length + 1 ≤ _
        omega
      · exact ⟨_, _, _, _, row, rfl, s3, hrow, by omega⟩
    · rintro σ H3 ⟨c, mx, x, t, row, rfl, s3, hrow, hl⟩
      exact ⟨_, _, _, _, _, row, rfl, s3, hrow, by omega⟩
  · rintro σ H2 ⟨kk, c, t, x, mx, row, rfl, s2, hrow, hl⟩
    rw [List.length_map] at hl
    refine ⟨_, rfl, ?_⟩
    refine ⟨_, rfl, by omega, by omega, for_range (fun (j : Nat) σ H3 => ∃ (kk c t x : Option V) (mx : Int) (row : List Int), σ = [some (.ref a), some (.int (m : Int)), some (.ref r), some (.int mx), kk, c, t, x] ∧ Same H H3 ∧ H3 r = some (.lst (row.map V.int)) ∧ row.length ≤ 4000 + j)
      ⟨_, _, _, _, _, row, rfl, s2, hrow, by omega⟩ ?_ ?_⟩
    · rintro j σ H3 hj ⟨kk, c, t, x, mx, row, rfl, s3, hrow, hl⟩
      have hj : j < ((m : Int)).toNat := hj
      refine ⟨_, rfl, _, _, rfl, rfl, .inr (by decide), _, rfl, _, _, rfl, rfl, _, _, rfl, rfl, .inl ⟨_, rfl, _, _, rfl, rfl, (show (0 : Int) < 65537 by decide), ?_⟩⟩
      refine ⟨_, rfl, .inl ⟨rfl, _, SqL.of hrow⟩, _, rfl, .inl ⟨_, rfl, _, _, rfl, rfl, (show (0 : Int) < 997 by decide), r, _, _, rfl, rfl, hrow, szl (by rw [List.length_map]; omega), ?_⟩⟩
      refine ⟨_, _, _, _, _, row ++ [_], rfl, same_upd hr0 s3 _, by rw [upd_same, List.map_append]; rfl, ?_⟩
      rw [List.length_append]
      show row.length + 1 ≤ _
      omega
    · rintro σ H3 ⟨kk, c, t, x, mx, row, rfl, s3, hrow, hl⟩
      obtain ⟨row', hc⟩ := cut_ints row none (some (m : Int))
      refine ⟨_, rfl, _, rfl, _, rfl, r, _, rfl, SqL.of hrow, fun p hp => ?_⟩
      rw [hc]
      exact q p row' _ (s3.free hp) (same_upd (s3.free hp) s3 _) upd_same
end
end Toy

set_option Elab.async false
set_option linter.all false
set_option maxRecDepth 100000
set_option maxHeartbeats 4000000
/-! Part B: data of tuples, whole numbers, texts and None, in plain Lean, and how it stands in the heap. -/
namespace Toy
open PySem L2
inductive Td
  | non
  | int (i : Int)
  | str (s : Str)
  | tup (l : List Td)
mutual
def Td.D : Td → PyData
  | .non => .none
  | .int i => .int i
  | .str s => .str s
  | .tup l => .tuple (Td.Ds l)
def Td.Ds : List Td → List PyData
  | [] => []
  | k :: l => k.D :: Td.Ds l
end
mutual
/-- such data stands in the heap as v, in tuples that are tracked -/
def Td.At (H : Hp) : Td → V → Prop
  | .non, v => v = .non
  | .int i, v => v = .int i
  | .str s, v => v = .str s
  | .tup l, v => ∃ a xs, v = .ref a ∧ H a = some (.tup xs) ∧ Td.Ats H l xs
def Td.Ats (H : Hp) : List Td → List V → Prop
  | [], xs => xs = []
  | k :: l, xs => ∃ x ys, xs = x :: ys ∧ k.At H x ∧ Td.Ats H l ys
end
/-- a heap in which the tuples stand -/
def TK (H H' : Hp) : Prop := ∀ a xs, H a = some (.tup xs) → H' a = some (.tup xs)
theorem TK.refl (H : Hp) : TK H H := fun _ _ h => h
theorem TK.trans {H1 H2 H3 : Hp} (h : TK H1 H2) (k : TK H2 H3) : TK H1 H3 := fun a xs e => k a xs (h a xs e)
theorem tk_same {H H' : Hp} (s : Same H H') : TK H H' := fun _ _ e => s _ _ e
theorem tk_upd {H : Hp} {p : Addr} {o : HO} (n : ∀ xs, H p ≠ some (.tup xs)) : TK H (upd H p o) := fun a xs e => by
  rw [upd_ne (fun z => n xs (by rw [← z]; exact e))]
  exact e
theorem tk_list {H : Hp} {p : Addr} {ys : List V} {o : HO} (h : H p = some (.lst ys)) : TK H (upd H p o) := tk_upd fun xs e => by rw [h] at e; cases e
theorem tk_dict {H : Hp} {p : Addr} {kvs : List (Key × V)} {o : HO} (h : H p = some (.dK kvs)) : TK H (upd H p o) := tk_upd fun xs e => by rw [h] at e; cases e
theorem tk_new {H : Hp} {p : Addr} {o : HO} (h : H p = none) : TK H (upd H p o) := tk_same (same_new h o)
theorem tk_keep {p : Addr} {H H' : Hp} (k : Keep p H H') (n : ∀ xs, H p ≠ some (.tup xs)) : TK H H' := fun a xs e => k a _ (fun z => n xs (z ▸ e)) e
theorem DrawsAt.notup {H : Hp} {p r : Addr} (d : DrawsAt H p r) : ∀ xs, H p ≠ some (.tup xs) := fun xs e => by
  obtain ⟨_, _, h, _⟩ := d
  rw [h] at e
  cases e
theorem sameT {H1 H2 H3 : Hp} (h : Same H1 H2) (k : Same H2 H3) : Same H1 H3 := fun a u e => k a u (h a u e)
mutual
theorem Td.At.keep {H H' : Hp} : ∀ {k : Td} {v : V}, TK H H' → k.At H v → k.At H' v
  | .non, _, _, h => h
  | .int _, _, _, h => h
  | .str _, _, _, h => h
  | .tup l, _, t, ⟨a, xs, e, h, hs⟩ => ⟨a, xs, e, t _ _ h, Td.Ats.keep t hs⟩
theorem Td.Ats.keep {H H' : Hp} : ∀ {l : List Td} {xs : List V}, TK H H' → Td.Ats H l xs → Td.Ats H' l xs
  | [], _, _, h => h
  | k :: l, _, t, ⟨x, ys, e, h, hs⟩ => ⟨x, ys, e, Td.At.keep t h, Td.Ats.keep t hs⟩
end
mutual
theorem Td.At.dp {K : PySem.W.Frag} {H : Hp} : ∀ {k : Td} {v : V}, k.At H v → Dp K H v k.D
  | .non, _, h => by cases h; exact .non
  | .int i, _, h => by cases h; exact .int i
  | .str s, _, h => by cases h; exact .str s
  | .tup l, _, ⟨a, xs, e, h, hs⟩ => by cases e; exact .tup (SqT.of h) (Td.Ats.dp hs)
theorem Td.Ats.dp {K : PySem.W.Frag} {H : Hp} : ∀ {l : List Td} {xs : List V}, Td.Ats H l xs → DpAll K H xs (Td.Ds l)
  | [], _, h => by cases h; exact .nil
  | k :: l, _, ⟨x, ys, e, h, hs⟩ => by cases e; exact .cons (Td.At.dp h) (Td.Ats.dp hs)
end
mutual
/-- its texts can be laid -/
def Td.lay : Td → Bool
  | .non => true
  | .int _ => true
  | .str s => PyData.strOk s
  | .tup l => Td.lays l
def Td.lays : List Td → Bool
  | [] => true
  | k :: l => k.lay && Td.lays l
end
mutual
def Td.dep : Td → Nat
  | .non => 0
  | .int _ => 0
  | .str _ => 0
  | .tup l => 1 + Td.deps l
def Td.deps : List Td → Nat
  | [] => 0
  | k :: l => max k.dep (Td.deps l)
end
mutual
theorem Td.canLay : ∀ k : Td, k.lay = true → k.D.canLay0 = true
  | .non, _ => by simp [Td.D, PyData.canLay0]
  | .int i, _ => by simp [Td.D, PyData.canLay0]
  | .str s, h => by
    have h : PyData.strOk s = true := h
    simp [Td.D, PyData.canLay0, h]
  | .tup l, h => by
    have h : Td.lays l = true := h
    simp [Td.D, PyData.canLay0, Td.canLays l h]
theorem Td.canLays : ∀ l : List Td, Td.lays l = true → PyData.canLayAll0 (Td.Ds l) = true
  | [], _ => by simp [Td.Ds, PyData.canLayAll0]
  | k :: l, h => by
    have h : (k.lay && Td.lays l) = true := h
    rw [Bool.and_eq_true] at h
    simp [Td.Ds, PyData.canLayAll0, Td.canLay k h.1, Td.canLays l h.2]
end
mutual
theorem Td.depth_le : ∀ k : Td, k.D.depth ≤ k.dep
  | .non => by simp [Td.D, PyData.depth, Td.dep]
  | .int i => by simp [Td.D, PyData.depth, Td.dep]
  | .str s => by simp [Td.D, PyData.depth, Td.dep]
  | .tup l => by
    have h := Td.depths_le l
    simp [Td.D, PyData.depth, Td.dep]
    omega
theorem Td.depths_le : ∀ l : List Td, PyData.depthAll (Td.Ds l) ≤ Td.deps l
  | [] => by simp [Td.Ds, PyData.depthAll, Td.deps]
  | k :: l => by
    have h1 := Td.depth_le k
    have h2 := Td.depths_le l
    simp [Td.Ds, PyData.depthAll, Td.deps]
    omega
end
/-- a list or a tuple of such data can be compared -/
theorem Td.shapedT {l : List Td} (h : Td.lays l = true) (d : Td.deps l ≤ 60) : SeqAt.shaped (.tuple (Td.Ds l)) = true := by
  have h1 := Td.depths_le l
  have h2 : PyData.depth (.tuple (Td.Ds l)) ≤ 64 := by
    simp only [PyData.depth]
    omega
  show (PyData.canLay0 (.tuple (Td.Ds l)) && decide (PyData.depth (.tuple (Td.Ds l)) ≤ 64)) = true
  rw [Bool.and_eq_true]
  exact ⟨by simp only [PyData.canLay0]; exact Td.canLays l h, decide_eq_true h2⟩
theorem Td.shapedL {l : List Td} (h : Td.lays l = true) (d : Td.deps l ≤ 60) : SeqAt.shaped (.list (Td.Ds l)) = true := by
  have h1 := Td.depths_le l
  have h2 : PyData.depth (.list (Td.Ds l)) ≤ 64 := by
    simp only [PyData.depth]
    omega
  show (PyData.canLay0 (.list (Td.Ds l)) && decide (PyData.depth (.list (Td.Ds l)) ≤ 64)) = true
  rw [Bool.and_eq_true]
  exact ⟨by simp only [PyData.canLay0]; exact Td.canLays l h, decide_eq_true h2⟩
theorem Td.shaped {k : Td} (h : k.lay = true) (d : k.dep ≤ 60) : SeqAt.shaped k.D = true := by
  have h1 := Td.depth_le k
  show (PyData.canLay0 k.D && decide (PyData.depth k.D ≤ 64)) = true
  rw [Bool.and_eq_true]
  exact ⟨Td.canLay k h, decide_eq_true (by omega)⟩
theorem eqv_self {d : PyData} (h : SeqAt.shaped d = true) : PyData.eqv d d = true := SeqAt.eqv_refl d (SeqAt.canLay_of_shaped h)
theorem lays_app : ∀ l m : List Td, Td.lays (l ++ m) = (Td.lays l && Td.lays m)
  | [], m => by simp [Td.lays]
  | k :: l, m => by
    show (k.lay && Td.lays (l ++ m)) = ((k.lay && Td.lays l) && Td.lays m)
    rw [lays_app l m, Bool.and_assoc]
theorem deps_app : ∀ l m : List Td, Td.deps (l ++ m) = max (Td.deps l) (Td.deps m)
  | [], m => by simp [Td.deps]
  | k :: l, m => by
    show max k.dep (Td.deps (l ++ m)) = max (max k.dep (Td.deps l)) (Td.deps m)
    rw [deps_app l m]
    omega
theorem ats_app {H : Hp} : ∀ {l m : List Td} {xs ys : List V}, Td.Ats H l xs → Td.Ats H m ys → Td.Ats H (l ++ m) (xs ++ ys)
  | [], m, xs, ys, h, k => by
    cases h
    exact k
  | t :: l, m, _, ys, ⟨x, zs, e, h, hs⟩, k => by
    cases e
    exact ⟨x, zs ++ ys, rfl, h, ats_app hs k⟩
theorem ats_one {H : Hp} {k : Td} {v : V} (h : k.At H v) : Td.Ats H [k] [v] := ⟨v, [], rfl, h, rfl⟩
theorem ats_len {H : Hp} : ∀ {l : List Td} {xs : List V}, Td.Ats H l xs → xs.length = l.length
  | [], _, h => by cases h; rfl
  | k :: l, _, ⟨x, ys, e, h, hs⟩ => by
    cases e
    show ys.length + 1 = l.length + 1
    rw [ats_len hs]
theorem ats_ints {H : Hp} : ∀ ns : List Int, Td.Ats H (ns.map Td.int) (ns.map V.int)
  | [] => rfl
  | n :: ns => ⟨_, _, rfl, rfl, ats_ints ns⟩
theorem lays_ints : ∀ ns : List Int, Td.lays (ns.map Td.int) = true
  | [] => rfl
  | n :: ns => by
    show (true && Td.lays (ns.map Td.int)) = true
    rw [lays_ints ns]
    rfl
theorem deps_ints : ∀ ns : List Int, Td.deps (ns.map Td.int) = 0
  | [] => rfl
  | n :: ns => by
    show max 0 (Td.deps (ns.map Td.int)) = 0
    rw [deps_ints ns]
    rfl
theorem ats_get {H : Hp} : ∀ {l : List Td} {xs : List V} {i : Nat} {x : V}, Td.Ats H l xs → xs[i]? = some x → ∃ k, l[i]? = some k ∧ k.At H x
  | [], _, i, x, h, e => by cases h; simp at e
  | k :: l, _, 0, x, ⟨y, ys, e, h, hs⟩, ex => by
    cases e
    cases ex
    exact ⟨k, rfl, h⟩
  | k :: l, _, i + 1, x, ⟨y, ys, e, h, hs⟩, ex => by
    cases e
    exact ats_get (l := l) (i := i) hs ex
end Toy

set_option Elab.async false
set_option linter.all false
set_option maxRecDepth 100000
set_option maxHeartbeats 4000000
/-! Part C: rows of events, what their pages are, the def pages. -/
namespace Toy
open PySem L2
open PyProof.Rows (envOfC)
inductive Ev
  | note (n : Int)
  | shw (n : Int)
  | fin
  | flt (s : Str)
def Ev.row : Ev → List V
  | .note n => [.str "note", .int n]
  | .shw n => [.str "show", .int n]
  | .fin => [.str "end"]
  | .flt s => [.str "fault", .str s]
def Ev.T : Ev → Td
  | .note n => .tup [.str "note", .int n]
  | .shw n => .tup [.str "show", .int n]
  | .fin => .tup [.str "end"]
  | .flt s => .tup [.str "fault", .str s]
theorem ev_at {H : Hp} {e : Ev} {v : V} (h : e.T.At H v) : ∃ t, v = .ref t ∧ H t = some (.tup e.row) := by
  cases e with
  | note n =>
    obtain ⟨a, xs, rfl, ha, x, ys, rfl, hx, y, zs, rfl, hy, hz⟩ := h
    cases hx; cases hy; cases hz
    exact ⟨a, rfl, ha⟩
  | shw n =>
    obtain ⟨a, xs, rfl, ha, x, ys, rfl, hx, y, zs, rfl, hy, hz⟩ := h
    cases hx; cases hy; cases hz
    exact ⟨a, rfl, ha⟩
  | fin =>
    obtain ⟨a, xs, rfl, ha, x, ys, rfl, hx, hz⟩ := h
    cases hx; cases hz
    exact ⟨a, rfl, ha⟩
  | flt s =>
    obtain ⟨a, xs, rfl, ha, x, ys, rfl, hx, y, zs, rfl, hy, hz⟩ := h
    cases hx; cases hy; cases hz
    exact ⟨a, rfl, ha⟩
theorem at_ev {H : Hp} {e : Ev} {t : Addr} (h : H t = some (.tup e.row)) : e.T.At H (.ref t) := by
  cases e with
  | note n => exact ⟨t, _, rfl, h, _, _, rfl, rfl, _, _, rfl, rfl, rfl⟩
  | shw n => exact ⟨t, _, rfl, h, _, _, rfl, rfl, _, _, rfl, rfl, rfl⟩
  | fin => exact ⟨t, _, rfl, h, _, _, rfl, rfl, rfl⟩
  | flt s => exact ⟨t, _, rfl, h, _, _, rfl, rfl, _, _, rfl, rfl, rfl⟩
/-- the whole numbers in order -/
def srt (l : List Int) : List Int := l.mergeSort (fun a b => decide (a ≤ b))
theorem srt_perm (l : List Int) : (srt l).Perm l := List.mergeSort_perm _ _
theorem srt_up (l : List Int) : (srt l).Pairwise (· ≤ ·) := by
  have h := List.pairwise_mergeSort (le := fun a b : Int => decide (a ≤ b)) (fun a b c h1 h2 => by simp at *; omega) (fun a b => by simp; omega) l
  exact h.imp fun h => by simpa using h
theorem srt_eq {l ys : List Int} (p : ys.Perm l) (u : ys.Pairwise (· ≤ ·)) : ys = srt l :=
  List.Perm.eq_of_pairwise (fun a b _ _ h1 h2 => Int.le_antisymm h1 h2) u (srt_up l) (p.trans (srt_perm l).symm)
theorem atI_last {xs : List V} {v : V} (h : xs[xs.length - 1]? = some v) : atI xs (-1) = some v := by
  have hn : xs.length - 1 < xs.length := (List.getElem?_eq_some_iff.mp h).1
  have e : ixN xs.length (-1) = some (xs.length - 1) := by
    unfold ixN
    rw [if_neg (by decide), if_pos (by omega)]
    exact congrArg some (by omega)
  show (ixN xs.length (-1)).bind (fun j => xs[j]?) = _
  rw [e]
  exact h
def nt (l : List Int) : Td := .tup ((srt l).map Td.int)
theorem nt_at {H : Hp} {l : List Int} {t : Addr} (h : H t = some (.tup ((srt l).map V.int))) : (nt l).At H (.ref t) := ⟨t, _, rfl, h, ats_ints _⟩
/-- what has been noted, and the pages, up to here -/
def pstep (s : List Int × List Td) : Ev → List Int × List Td
  | .note n => if n ∈ s.1 then s else (s.1 ++ [n], s.2)
  | .shw n => (s.1, s.2 ++ [.tup [.int n, nt s.1]])
  | .fin => s
  | .flt _ => s
def prun (es : List Ev) : List Int × List Td := es.foldl pstep ([], [])
theorem prun_snoc (es : List Ev) (e : Ev) : prun (es ++ [e]) = pstep (prun es) e := by
  unfold prun
  rw [List.foldl_append]
  rfl
theorem prun_take {es : List Ev} {i : Nat} {e : Ev} (h : es[i]? = some e) : prun (es.take (i + 1)) = pstep (prun (es.take i)) e := by
  rw [List.take_add_one, h]
  exact prun_snoc _ _
theorem len_noted (es : List Ev) : (prun es).1.length ≤ es.length := by
  have : ∀ (es : List Ev) (s : List Int × List Td), (es.foldl pstep s).1.length ≤ s.1.length + es.length := by
    intro es
    induction es with
    | nil => intro s; exact Nat.le_refl _
    | cons e es ih =>
      intro s
      have h := ih (pstep s e)
      have k : (pstep s e).1.length ≤ s.1.length + 1 := by
        cases e with
        | note n =>
          show (if n ∈ s.1 then s else (s.1 ++ [n], s.2)).1.length ≤ _
          split
          · exact Nat.le_succ _
          · rw [List.length_append]; exact Nat.le_refl _
        | shw n => exact Nat.le_succ _
        | fin => exact Nat.le_succ _
        | flt z => exact Nat.le_succ _
      show (es.foldl pstep (pstep s e)).1.length ≤ s.1.length + (es.length + 1)
      omega
  simpa [prun] using this es ([], [])
theorem len_found (es : List Ev) : (prun es).2.length ≤ es.length := by
  have : ∀ (es : List Ev) (s : List Int × List Td), (es.foldl pstep s).2.length ≤ s.2.length + es.length := by
    intro es
    induction es with
    | nil => intro s; exact Nat.le_refl _
    | cons e es ih =>
      intro s
      have h := ih (pstep s e)
      have k : (pstep s e).2.length ≤ s.2.length + 1 := by
        cases e with
        | note n =>
          show (if n ∈ s.1 then s else (s.1 ++ [n], s.2)).2.length ≤ _
          split <;> exact Nat.le_succ _
        | shw n => show (s.2 ++ [_]).length ≤ _; rw [List.length_append]; exact Nat.le_refl _
        | fin => exact Nat.le_succ _
        | flt z => exact Nat.le_succ _
      show (es.foldl pstep (pstep s e)).2.length ≤ s.2.length + (es.length + 1)
      omega
  simpa [prun] using this es ([], [])
/-- the last page, if there is one -/
def plast (l : List Int) : Option Ev → List Td
  | some .fin => [.tup [.str "end", nt l]]
  | some (.flt s) => [.tup [.str s, nt l]]
  | _ => []
def pout (es : List Ev) : List Td := (prun es).2 ++ plast (prun es).1 es.getLast?
def nkv (l : List Int) : List (Key × V) := l.map fun n => (Sum.inl n, V.bl true)
theorem nkv_keys (l : List Int) : (nkv l).map (·.1) = l.map Sum.inl := by
  unfold nkv
  rw [List.map_map]
  rfl
theorem nkv_in {l : List Int} {n : Int} : n ∈ l → ∃ v, valV (nkv l) (Sum.inl n) = some v := by
  induction l with
  | nil => intro h; cases h
  | cons a l ih =>
    intro h
    by_cases e : a = n
    · exact ⟨_, valV_pos (p := (Sum.inl a, V.bl true)) (by rw [e])⟩
    · obtain ⟨v, hv⟩ := ih ((List.mem_cons.mp h).resolve_left fun z => e z.symm)
      exact ⟨v, (valV_neg (p := (Sum.inl a, V.bl true)) (fun z => e (Sum.inl.inj z))).trans hv⟩
theorem nkv_out {l : List Int} {n : Int} : n ∉ l → valV (nkv l) (Sum.inl n) = none := by
  induction l with
  | nil => intro _; rfl
  | cons a l ih =>
    intro h
    rw [List.mem_cons, not_or] at h
    exact (valV_neg (p := (Sum.inl a, V.bl true)) (fun z => h.1 (Sum.inl.inj z).symm)).trans (ih h.2)
theorem nkv_put {l : List Int} {n : Int} (h : n ∉ l) : putK (nkv l) (Sum.inl n) (.bl true) = nkv (l ++ [n]) := by
  rw [putK_new _ (nkv_out h)]
  unfold nkv
  rw [List.map_append]
  rfl
theorem boot_tuple : bootBuiltins "tuple" = some (.type "tuple") := by decide +kernel
theorem srt_nil : srt [] = [] := by simp [srt]
theorem eSS : decide (V.str ("show" : Str) = V.str "show") = true := by decide +kernel
theorem eNS : decide (V.str ("note" : Str) = V.str "show") = false := by decide +kernel
theorem eES : decide (V.str ("end" : Str) = V.str "show") = false := by decide +kernel
theorem eFS : decide (V.str ("fault" : Str) = V.str "show") = false := by decide +kernel
theorem eNN : decide (V.str ("note" : Str) = V.str "note") = true := by decide +kernel
theorem eEN : decide (V.str ("end" : Str) = V.str "note") = false := by decide +kernel
theorem eFN : decide (V.str ("fault" : Str) = V.str "note") = false := by decide +kernel
/-- the last event stands at u; a text of its own where there is none -/
def LastAt (H : Hp) (u : Addr) : Option Ev → Prop
  | none => H u = some (.tup [.str "none"])
  | some e => H u = some (.tup e.row)
structure TxtP (mg : Str → Option Value) : Prop where
  zsorted : mg "sorted" = none
  ztuple : mg "tuple" = none
section
variable {P : Program} {w : World} {K : PySem.W.Frag} {mg : Str → Option Value} {base : Heap} 
abbrev sPages : Stmt := topS 1
theorem scPages : FnScope ["events", "found", "noted", "notes", "event", "last"] ["events"] (defScope sPages) := ⟨rfl, rfl, rfl, by decide +kernel, rfl, by decide +kernel, by decide +kernel⟩
/-- the pages of a row of events, in a new list -/
def spPages : Sp := fun vs H Q _ => ∃ (a : Addr) (xs : List V) (es : List Ev), vs = [.ref a] ∧ H a = some (.tup xs) ∧ Td.Ats H (es.map Ev.T) xs ∧ es.length < 64 ∧
  ∀ (p : Addr) (ys : List V) (H' : Hp), H p = none → Same H H' → H' p = some (.lst ys) → Td.Ats H' (pout es) ys → Q (.ref p) H'
theorem c_pages {f : Addr} {fd : FuncData} (T : TxtP mg) (F : Fun K "pages" "pages" sPages f fd) (b : Binds K fd ["events"] []) (hm : mg "pages" = some (.ref f)) : C8.Cal P w K mg base 1 "pages" spPages [] := by
  refine cal_of F hm b scPages (fun vs H Q E h => ?_) (fun cdv A outer s H vs Q E hr h => ?_)
  · obtain ⟨a, xs, es, rfl, _⟩ := h
    rfl
  obtain ⟨a, xs, es, rfl, ha, hat, h64, q⟩ := h
  have hu := hu_of hr
  refine ⟨_, (pss_cons (ps_set (i := 1) scPages.nd rfl (Or.inl rfl) (pe_lst pa_nil))
    (pss_cons (ps_set (i := 2) scPages.nd rfl (Or.inl rfl) pe_dnewK)
    (pss_cons (ps_set (i := 3) scPages.nd rfl (Or.inl rfl) (pe_tup pa_nil))
    (pss_cons (ps_for PassesOwn.never rfl (pi_tup (pv 0)) (pg_name (i := 4) scPages.nd rfl (Or.inl rfl))
      (pss_one (ps_if (pt_cmpR op_eq (pe_ix ix_tup (pv 4) pe_int (fun _ _ => rfl)) pe_str (nomark _))
      (pss_one (ps_expr (pe_bm PySem.F.plainAttrs_list PySem.F.slot_list_append PySem.F.type_list_append mt_append (pv 1) (pa_cons (pe_tup (pa_cons (pe_ix ix_tup (pv 4) pe_int (fun _ _ => rfl)) (pa_cons (pv 3) pa_nil))) pa_nil))))
      (pss_one (ps_if (PW.pt (pw_and (pt_cmpR op_eq (pe_ix ix_tup (pv 4) pe_int (fun _ _ => rfl)) pe_str (nomark _)) (pw_and1 (pt_cmp (pc_dnotin hu (pe_ix ix_tup (pv 4) pe_int (fun _ _ => rfl)) (pv 2))))))
      (pss_cons (ps_dput hu (pv 2) (pe_ix ix_tup (pv 4) pe_int (fun _ _ => rfl)) pe_bl rfl)
    (pss_one (ps_set (i := 3) scPages.nd rfl (Or.inl rfl) (pe_callTy call_tuple_of rfl T.ztuple boot_tuple (pa_cons (pe_callB (call_sortedDI rfl) rfl T.zsorted PyProof.Rows.boot_sorted (pa_cons (pv 2) pa_nil)) pa_nil)))))
      pss_nil)))))
    (C8.pss_cut (ps_set (i := 5) scPages.nd rfl (Or.inl rfl) (pe_ifExp (pt_truth (pv 0) (fun _ => rfl)) (pe_ix ix_tup (pv 0) (pe_un un_neg pe_int) (fun _ _ => rfl)) (pe_tup (pa_cons pe_str pa_nil))))
    (pss_cons (ps_if (pt_cmpR op_in_seq (pe_ix ix_tup (pv 5) pe_int (fun _ _ => rfl)) (pe_tup (pa_cons pe_str (pa_cons pe_str pa_nil))) rfl)
      (pss_one (ps_expr (pe_bm PySem.F.plainAttrs_list PySem.F.slot_list_append PySem.F.type_list_append mt_append (pv 1) (pa_cons (pe_tup (pa_cons (pe_ix ix_tup (pv 5) (pe_un un_neg pe_int) (fun _ _ => rfl)) (pa_cons (pv 3) pa_nil))) pa_nil))))
      pss_nil)
    (pss_one (ps_ret (pv 1))))))))), ?_⟩
  refine ⟨(by show 0 ≤ sizeLine; decide), fun fo hfo => ?_⟩
  have s1 := same_new hfo (.lst [])
  have e1 : upd H fo (.lst []) fo = some (.lst []) := upd_same
  generalize upd H fo (.lst []) = H1 at s1 e1 ⊢
  intro d hd
  have s2 := same_new hd (.dK [])
  have e2 : upd H1 d (.dK []) d = some (.dK (nkv [])) := upd_same
  have hdH : H d = none := s1.free hd
  have nfd : fo ≠ d := ne_of_none e1 hd
  replace s2 := sameT s1 s2
  have e1' : upd H1 d (.dK []) fo = some (.lst []) := by rw [upd_ne nfd]; exact e1
  generalize upd H1 d (.dK []) = H2 at s2 e2 e1' ⊢
  refine ⟨by show 0 ≤ sizeLine; decide, fun t0 ht0 => ?_⟩
  have s3 := same_new ht0 (.tup [])
  have e3 : upd H2 t0 (.tup []) t0 = some (.tup ((srt []).map V.int)) := by rw [upd_same, srt_nil]; rfl
  have e13 := s3 _ _ e1'
  have e23 := s3 _ _ e2
  replace s3 := sameT s2 s3
  generalize upd H2 t0 (.tup []) = H3 at s3 e3 e13 e23 ⊢
  refine ⟨_, rfl, a, rfl, ⟨_, SqT.of (s3 _ _ ha)⟩, for_tup (K := K) (a := a) (xs := xs)
    (fun (i : Nat) σ G => ∃ (v4 : Option V) (t : Addr) (ys : List V), σ = [some (.ref a), some (.ref fo), some (.ref d), some (.ref t), v4, none] ∧ Same H G ∧ G fo = some (.lst ys) ∧ Td.Ats G (prun (es.take i)).2 ys ∧ G d = some (.dK (nkv (prun (es.take i)).1)) ∧ G t = some (.tup ((srt (prun (es.take i)).1).map V.int)))
    ⟨_, t0, [], rfl, s3, e13, rfl, e23, e3⟩ (fun i σ G _ ⟨_, _, _, _, s, _⟩ => SqT.of (s _ _ ha)) ?_ ?_⟩
  · rintro i x σ G hx ⟨v4, t, ys, rfl, sG, hfG, hys, hdG, htG⟩
    obtain ⟨k, hk, hat1⟩ := ats_get hat hx
    rw [List.getElem?_map] at hk
    obtain ⟨e, he, rfl⟩ : ∃ e, es[i]? = some e ∧ e.T = k := by
      cases h : es[i]? with
      | none => rw [h] at hk; cases hk
      | some e => rw [h] at hk; cases hk; exact ⟨e, rfl, rfl⟩
    obtain ⟨u, rfl, hu1⟩ := ev_at hat1
    have huG := sG _ _ hu1
    have hl1 : (prun (es.take i)).1.length < 64 := by
      have := len_noted (es.take i)
      rw [List.length_take] at this
      omega
    have hl2 : (prun (es.take i)).2.length < 64 := by
      have := len_found (es.take i)
      rw [List.length_take] at this
      omega
    have stp := prun_take he
    generalize hst : prun (es.take i) = st at *
    obtain ⟨l, tds⟩ := st
    cases e with
    | note n =>
      replace huG : G u = some (.tup [.str "note", .int n]) := huG
      refine ⟨_, rfl, u, _, 0, _, rfl, rfl, SqT.of huG, rfl, rfl, _, rfl, ?_⟩
      rw [eNS]
      refine iteF ?_
      refine ⟨_, rfl, u, _, 0, _, rfl, rfl, SqT.of huG, rfl, rfl, _, rfl, ?_⟩
      rw [eNN]
      refine iteT ?_
      refine ⟨_, rfl, u, _, 1, _, rfl, rfl, SqT.of huG, rfl, _, rfl, d, _, rfl, DGet.k (k := Sum.inl n) hdG, ?_⟩
      by_cases c : n ∈ l
      · obtain ⟨v, hv⟩ := nkv_in c
        rw [hv]
        refine ⟨_, rfl, ?_⟩
        refine iteF ?_
        rw [show pstep (l, tds) (.note n) = (l, tds) from if_pos c] at stp
        refine ⟨_, t, ys, rfl, sG, hfG, ?_, ?_, ?_⟩
        · rw [stp]; exact hys
        · rw [stp]; exact hdG
        · rw [stp]; exact htG
      · rw [nkv_out c]
        refine ⟨_, rfl, ?_⟩
        refine iteT ?_
        rw [show pstep (l, tds) (.note n) = (l ++ [n], tds) from if_neg c] at stp
        have hl1 : l.length < 64 := hl1
        have hll : (l ++ [n]).length < 64 := by
          have := len_noted (es.take (i + 1))
          rw [List.length_take, stp] at this
          show (l ++ [n]).length < 64
          have this : (l ++ [n]).length ≤ _ := this
          omega
        refine ⟨_, rfl, _, rfl, u, _, 1, _, rfl, rfl, SqT.of huG, rfl, d, _, rfl, DPut.k (k := Sum.inl n) hdG (by show (nkv l).length < sizeLine; unfold nkv; rw [List.length_map]; exact szl (by omega)), ?_⟩
        rw [show putK (nkv (l, tds).1) (Sum.inl n : Key) (.bl true) = nkv (l ++ [n]) from nkv_put c]
        have sd : Same H (upd G d (.dK (nkv (l ++ [n])))) := same_upd hdH sG _
        have hd5 : upd G d (.dK (nkv (l ++ [n]))) d = some (.dK (nkv (l ++ [n]))) := upd_same
        have hf5 : upd G d (.dK (nkv (l ++ [n]))) fo = some (.lst ys) := by rw [upd_ne nfd]; exact hfG
        have ts : TK G (upd G d (.dK (nkv (l ++ [n])))) := tk_dict hdG
        have hys5 := hys.keep ts
        generalize upd G d (.dK (nkv (l ++ [n]))) = G5 at sd hd5 hf5 ts hys5 ⊢
        refine ⟨_, rfl, d, _, l ++ [n], rfl, Rd.of hd5, nkv_keys _, hll, fun zs p pm up hp => ?_⟩
        have s6 := same_new hp (.lst (zs.map V.int))
        have e6 : upd G5 p (.lst (zs.map V.int)) p = some (.lst (zs.map V.int)) := upd_same
        generalize upd G5 p (.lst (zs.map V.int)) = G6 at s6 e6 ⊢
        refine ⟨p, _, rfl, .inl ⟨SqL.of e6, fun t ht => ?_⟩⟩
        have s7 := same_new ht (.tup (zs.map V.int))
        have e7 : upd G6 t (.tup (zs.map V.int)) t = some (.tup ((srt (l ++ [n])).map V.int)) := by rw [upd_same, srt_eq pm up]
        generalize upd G6 t (.tup (zs.map V.int)) = G7 at s7 e7 ⊢
        have s57 := sameT s6 s7
        refine ⟨_, t, ys, rfl, sameT sd s57, s57 _ _ hf5, ?_, ?_, ?_⟩
        · rw [stp]; exact hys5.keep (tk_same s57)
        · rw [stp]; exact s57 _ _ hd5
        · rw [stp]; exact e7
    | shw n =>
      replace huG : G u = some (.tup [.str "show", .int n]) := huG
      refine ⟨_, rfl, u, _, 0, _, rfl, rfl, SqT.of huG, rfl, rfl, _, rfl, ?_⟩
      rw [eSS]
      refine iteT ?_
      replace stp : prun (es.take (i + 1)) = (l, tds ++ [.tup [.int n, nt l]]) := stp
      refine ⟨_, rfl, .inl ⟨rfl, _, SqL.of hfG⟩, _, rfl, u, _, 1, _, rfl, rfl, SqT.of huG, rfl, _, rfl, by show 2 ≤ sizeLine; decide, fun t1 ht1 => ?_⟩
      have s5 := same_new ht1 (.tup [.int n, .ref t])
      have e5 : upd G t1 (.tup [.int n, .ref t]) t1 = some (.tup [.int n, .ref t]) := upd_same
      generalize upd G t1 (.tup [.int n, .ref t]) = G5 at s5 e5 ⊢
      have hf5 := s5 _ _ hfG
      have hl2 : tds.length < 64 := hl2
      have hyl : ys.length = tds.length := ats_len hys
      refine ⟨fo, ys, _, rfl, rfl, hf5, szl (by omega), ?_⟩
      have s6 : Same H (upd G5 fo (.lst (ys ++ [.ref t1]))) := same_upd hfo (sameT sG s5) _
      have t6 : TK G5 (upd G5 fo (.lst (ys ++ [.ref t1]))) := tk_list hf5
      have htG' : upd G5 fo (.lst (ys ++ [.ref t1])) t = some (.tup ((srt l).map V.int)) := t6 _ _ (s5 _ _ htG)
      refine ⟨_, t, ys ++ [.ref t1], rfl, s6, upd_same, ?_, ?_, ?_⟩
      · rw [stp]
        exact ats_app ((Td.Ats.keep (tk_same s5) hys).keep t6) (ats_one ⟨t1, _, rfl, t6 _ _ e5, _, _, rfl, rfl, _, _, rfl, nt_at htG', rfl⟩)
      · rw [stp, upd_ne nfd.symm]; exact s5 _ _ hdG
      · rw [stp]; exact htG'
    | fin =>
      replace huG : G u = some (.tup [.str "end"]) := huG
      refine ⟨_, rfl, u, _, 0, _, rfl, rfl, SqT.of huG, rfl, rfl, _, rfl, ?_⟩
      rw [eES]
      refine iteF ?_
      refine ⟨_, rfl, u, _, 0, _, rfl, rfl, SqT.of huG, rfl, rfl, _, rfl, ?_⟩
      rw [eEN]
      refine iteF ?_
      replace stp : prun (es.take (i + 1)) = (l, tds) := stp
      refine ⟨_, t, ys, rfl, sG, hfG, ?_, ?_, ?_⟩
      · rw [stp]; exact hys
      · rw [stp]; exact hdG
      · rw [stp]; exact htG
    | flt z =>
      replace huG : G u = some (.tup [.str "fault", .str z]) := huG
      refine ⟨_, rfl, u, _, 0, _, rfl, rfl, SqT.of huG, rfl, rfl, _, rfl, ?_⟩
      rw [eFS]
      refine iteF ?_
      refine ⟨_, rfl, u, _, 0, _, rfl, rfl, SqT.of huG, rfl, rfl, _, rfl, ?_⟩
      rw [eFN]
      refine iteF ?_
      replace stp : prun (es.take (i + 1)) = (l, tds) := stp
      refine ⟨_, t, ys, rfl, sG, hfG, ?_, ?_, ?_⟩
      · rw [stp]; exact hys
      · rw [stp]; exact hdG
      · rw [stp]; exact htG
  · rintro σ G ⟨v4, t, ys, rfl, sG, hfG, hys, hdG, htG⟩
    have hxl : xs.length = es.length := by rw [ats_len hat, List.length_map]
    rw [hxl, List.take_length] at hys hdG htG
    refine ⟨fun σ G5 => ∃ u : Addr, σ = [some (.ref a), some (.ref fo), some (.ref d), some (.ref t), v4, some (.ref u)] ∧ Same G G5 ∧ LastAt G5 u es.getLast?, ?_, ?_⟩
    · refine ⟨_, rfl, _, .inr (.inl ⟨xs, SqT.of (sG _ _ ha), rfl⟩), ?_⟩
      rcases List.eq_nil_or_concat es with h | ⟨es', e, h⟩
      · subst h
        have hx0 : xs = [] := List.eq_nil_of_length_eq_zero hxl
        subst hx0
        refine iteF ?_
        refine ⟨by show 1 ≤ sizeLine; decide, fun u hu => ?_⟩
        exact ⟨u, rfl, same_new hu _, upd_same⟩
      · have hne : 0 < es.length := by rw [h, List.concat_eq_append, List.length_append]; exact Nat.succ_pos _
        have hlt : xs.length - 1 < xs.length := by omega
        have hx := List.getElem?_eq_getElem hlt
        generalize xs[xs.length - 1] = v at hx
        obtain ⟨k, hk, hat1⟩ := ats_get hat hx
        rw [List.getElem?_map, hxl] at hk
        have hg : es.getLast? = es[es.length - 1]? := List.getLast?_eq_getElem?
        obtain ⟨e, he, rfl⟩ : ∃ e, es[es.length - 1]? = some e ∧ e.T = k := by
          cases h : es[es.length - 1]? with
          | none => rw [h] at hk; cases hk
          | some e => rw [h] at hk; cases hk; exact ⟨e, rfl, rfl⟩
        obtain ⟨u, rfl, hu1⟩ := ev_at hat1
        have hx1 : (!xs.isEmpty) = true := by
          cases xs with
          | nil => cases hx
          | cons _ _ => rfl
        rw [hx1]
        refine iteT ?_
        refine ⟨_, rfl, _, rfl, a, _, -1, _, rfl, rfl, SqT.of (sG _ _ ha), atI_last hx, ?_⟩
        refine ⟨u, rfl, fun _ _ e => e, ?_⟩
        rw [hg, he]
        exact sG _ _ hu1
    rintro σ G5 ⟨u, rfl, s5, hl⟩
    have key : (∃ (x : Str) (row : List V), G5 u = some (.tup row) ∧ row[0]? = some (.str x) ∧ inV (.str x) [.str "end", .str "fault"] = false ∧ plast (prun es).1 es.getLast? = []) ∨
        (∃ (x z : Str) (row : List V), G5 u = some (.tup row) ∧ row[0]? = some (.str x) ∧ inV (.str x) [.str "end", .str "fault"] = true ∧ atI row (-1) = some (.str z) ∧ plast (prun es).1 es.getLast? = [.tup [.str z, nt (prun es).1]]) := by
      cases hg : es.getLast? with
      | none => rw [hg] at hl; exact .inl ⟨_, _, hl, rfl, by decide +kernel, rfl⟩
      | some e =>
        rw [hg] at hl
        cases e with
        | note n => exact .inl ⟨_, _, hl, rfl, by decide +kernel, rfl⟩
        | shw n => exact .inl ⟨_, _, hl, rfl, by decide +kernel, rfl⟩
        | fin => exact .inr ⟨_, _, _, hl, rfl, by decide +kernel, rfl, rfl⟩
        | flt z => exact .inr ⟨_, z, _, hl, rfl, by decide +kernel, rfl, rfl⟩
    have sH5 := sameT sG s5
    rcases key with ⟨x, row, hu5, hx, hin, hpl⟩ | ⟨x, z, row, hu5, hx, hin, hlz, hpl⟩
    · refine ⟨_, rfl, u, _, 0, _, rfl, rfl, SqT.of hu5, atI_nat (j := 0) hx, by show 2 ≤ sizeLine; decide, fun t1 ht1 => ?_⟩
      have s6 := same_new ht1 (.tup [.str "end", .str "fault"])
      refine ⟨t1, _, rfl, .inr (SqT.of upd_same), rfl, rfl, ?_⟩
      refine ⟨_, rfl, ?_⟩
      rw [show (if false = true then !inV (V.str x) [V.str "end", V.str "fault"] else inV (V.str x) [V.str "end", V.str "fault"]) = false from hin]
      refine iteF ?_
      refine ⟨_, rfl, q fo ys _ hfo (sameT sH5 s6) (s6 _ _ (s5 _ _ hfG)) ?_⟩
      unfold pout
      rw [hpl, List.append_nil]
      exact hys.keep (tk_same (sameT s5 s6))
    · refine ⟨_, rfl, u, _, 0, _, rfl, rfl, SqT.of hu5, atI_nat (j := 0) hx, by show 2 ≤ sizeLine; decide, fun t1 ht1 => ?_⟩
      have s6 := same_new ht1 (.tup [.str "end", .str "fault"])
      refine ⟨t1, _, rfl, .inr (SqT.of upd_same), rfl, rfl, ?_⟩
      refine ⟨_, rfl, ?_⟩
      rw [show (if false = true then !inV (V.str x) [V.str "end", V.str "fault"] else inV (V.str x) [V.str "end", V.str "fault"]) = true from hin]
      refine iteT ?_
      have sH6 := sameT sH5 s6
      have s56 := sameT s5 s6
      have hu6 := s6 _ _ hu5
      generalize upd G5 t1 (.tup [.str "end", .str "fault"]) = G6 at s6 sH6 s56 hu6 ⊢
      refine ⟨_, rfl, .inl ⟨rfl, _, SqL.of (s56 _ _ hfG)⟩, _, rfl, _, rfl, u, _, -1, _, rfl, rfl, SqT.of hu6, hlz, _, rfl, by show 2 ≤ sizeLine; decide, fun t2 ht2 => ?_⟩
      have s7 := same_new ht2 (.tup [.str z, .ref t])
      have e7 : upd G6 t2 (.tup [.str z, .ref t]) t2 = some (.tup [.str z, .ref t]) := upd_same
      generalize upd G6 t2 (.tup [.str z, .ref t]) = G7 at s7 e7 ⊢
      have hf7 := s7 _ _ (s56 _ _ hfG)
      have hyl : ys.length = (prun es).2.length := ats_len hys
      have hle := len_found es
      refine ⟨fo, ys, _, rfl, rfl, hf7, szl (by omega), ?_⟩
      have t8 : TK G7 (upd G7 fo (.lst (ys ++ [.ref t2]))) := tk_list hf7
      have s57 := sameT s56 s7
      refine ⟨_, rfl, q fo (ys ++ [.ref t2]) _ hfo (same_upd hfo (sameT sH6 s7) _) upd_same ?_⟩
      unfold pout
      rw [hpl]
      exact ats_app ((Td.Ats.keep (tk_same s57) hys).keep t8) (ats_one ⟨t2, _, rfl, t8 _ _ e7, _, _, rfl, rfl, _, _, rfl, nt_at (t8 _ _ (s57 _ _ htG)), rfl⟩)
end
end Toy

set_option Elab.async false
set_option linter.all false
set_option maxRecDepth 100000
set_option maxHeartbeats 4000000
/-! Part D: the law. -/
namespace Toy
open PySem L2
open PyProof.Rows (envOfC)
theorem at_str {zs : List Str} {i : Int} (h0 : 0 ≤ i) (h1 : i < (zs.length : Int)) : ∃ z ∈ zs, atI (zs.map V.str) i = some (.str z) := by
  have hk : i.toNat < zs.length := by omega
  refine ⟨zs[i.toNat], List.getElem_mem _, ?_⟩
  have q : atI (zs.map V.str) ((i.toNat : Nat) : Int) = some (.str zs[i.toNat]) := atI_nat (by rw [List.getElem?_map, List.getElem?_eq_getElem hk] <;> rfl)
  rw [show ((i.toNat : Nat) : Int) = i by omega] at q
  exact q
theorem flat_ints : ∀ l : List Int, (l.map V.int).all flatV = true
  | [] => rfl
  | n :: l => by
    rw [List.map_cons, List.all_cons, flat_ints l]
    rfl
theorem inV_ints (n : Int) : ∀ l : List Int, inV (.int n) (l.map V.int) = decide (n ∈ l)
  | [] => rfl
  | a :: l => by
    show ((a == n) || inV (.int n) (l.map V.int)) = _
    rw [inV_ints n l]
    by_cases e : a = n
    · subst e
      simp
    · rw [beq_eq_false_iff_ne.mpr e, Bool.false_or]
      exact decide_eq_decide.mpr ⟨fun h => List.mem_cons_of_mem _ h, fun h => (List.mem_cons.mp h).resolve_left fun z => e z.symm⟩
def Ev.plain : Ev → Bool
  | .note _ => true
  | .shw _ => true
  | _ => false
theorem nt_lay (l : List Int) : (nt l).lay = true := lays_ints _
theorem nt_dep (l : List Int) : (nt l).dep = 1 := by
  show 1 + Td.deps _ = 1
  rw [deps_ints]
theorem pst_ok : ∀ (es : List Ev) (s : List Int × List Td), Td.lays s.2 = true ∧ Td.deps s.2 ≤ 2 → Td.lays (es.foldl pstep s).2 = true ∧ Td.deps (es.foldl pstep s).2 ≤ 2
  | [], _, h => h
  | e :: es, s, h => by
    refine pst_ok es (pstep s e) ?_
    cases e with
    | note n =>
      show Td.lays (if n ∈ s.1 then s else (s.1 ++ [n], s.2)).2 = true ∧ Td.deps (if n ∈ s.1 then s else (s.1 ++ [n], s.2)).2 ≤ 2
      split <;> exact h
    | shw n =>
      show Td.lays (s.2 ++ [_]) = true ∧ Td.deps (s.2 ++ [_]) ≤ 2
      rw [lays_app, deps_app, h.1]
      refine ⟨by show (true && ((true && ((nt s.1).lay && true)) && true)) = true; rw [nt_lay]; rfl, ?_⟩
      have := nt_dep s.1
      show max _ (max (1 + max 0 (max (nt s.1).dep 0)) 0) ≤ 2
      omega
    | fin => exact h
    | flt z => exact h
theorem prun_ok (es : List Ev) : Td.lays (prun es).2 = true ∧ Td.deps (prun es).2 ≤ 2 := pst_ok es _ ⟨rfl, Nat.zero_le _⟩
theorem sok_note : (PyData.strOk "note" && true) = true := by decide +kernel
theorem sok_show : (PyData.strOk "show" && true) = true := by decide +kernel
theorem sok_end : (PyData.strOk "end" && true) = true := by decide +kernel
theorem sok_fault : (PyData.strOk "fault") = true := by decide +kernel
theorem plain_ok : ∀ es : List Ev, (∀ e ∈ es, e.plain = true) → Td.lays (es.map Ev.T) = true ∧ Td.deps (es.map Ev.T) ≤ 1
  | [], _ => ⟨rfl, Nat.zero_le _⟩
  | e :: es, h => by
    have ⟨h1, h2⟩ := plain_ok es fun x hx => h x (List.mem_cons_of_mem _ hx)
    have he := h e (List.mem_cons_self ..)
    have k : e.T.lay = true ∧ e.T.dep ≤ 1 := by
      cases e with
      | note n => exact ⟨sok_note, Nat.le_refl _⟩
      | shw n => exact ⟨sok_show, Nat.le_refl _⟩
      | fin => cases he
      | flt z => cases he
    exact ⟨by show (e.T.lay && Td.lays (es.map Ev.T)) = true; rw [k.1, h1]; rfl, by show max e.T.dep _ ≤ 1; omega⟩
theorem plast_plain (es : List Ev) (l : List Int) (h : ∀ e ∈ es, e.plain = true) : plast l es.getLast? = [] := by
  cases hg : es.getLast? with
  | none => rfl
  | some e =>
    have he := h e (List.mem_of_getLast? hg)
    cases e with
    | note n => rfl
    | shw n => rfl
    | fin => cases he
    | flt z => cases he
def WORDS : List Str := ["no match", "division by zero", "overflow"]
theorem words_ok : ∀ z ∈ WORDS, PyData.strOk z = true := by decide +kernel
structure TxtL (mg : Str → Option Value) : Prop where
  zsorted : mg "sorted" = none
  ztuple : mg "tuple" = none
  zrange : mg "range" = none
  zisinstance : mg "isinstance" = none
  zlist : mg "list" = none
section
variable {P : Program} {w : World} {K : PySem.W.Frag} {mg : Str → Option Value} {base : Heap} 
theorem drawsK {o p r : Addr} {G G' : Hp} (d : DrawsAt G p r) (h1 : p ≠ o) (h2 : r ≠ o) (k : Keep o G G') : DrawsAt G' p r := by
  obtain ⟨row, i, g1, g2⟩ := d
  exact ⟨row, i, k _ _ h1 g1, k _ _ h2 g2⟩
theorem DrawsAt.ne_list {H : Hp} {p r x : Addr} {ys : List V} (d : DrawsAt H p r) (h : H x = some (.lst ys)) : x ≠ p := fun e => by
  obtain ⟨_, _, h1, _⟩ := d
  rw [e, h1] at h
  cases h
/-- the rows as they are built: the events, what is expected, what was noted -/
structure Built (G : Hp) (p r E X N : Addr) (es : List Ev) (n : Nat) : Prop where
  dr : DrawsAt G p r
  nEX : E ≠ X
  nEN : E ≠ N
  nXN : X ≠ N
  rE : E ≠ r
  rX : X ≠ r
  rN : N ≠ r
  ev : ∃ xs, G E = some (.lst xs) ∧ Td.Ats G (es.map Ev.T) xs
  ex : ∃ ys, G X = some (.lst ys) ∧ Td.Ats G (prun es).2 ys
  nd : G N = some (.lst ((prun es).1.map V.int))
  len : es.length ≤ n
  pl : ∀ e ∈ es, e.plain = true
theorem Built.mono {G : Hp} {p r E X N : Addr} {es : List Ev} {n m : Nat} (b : Built G p r E X N es n) (h : n ≤ m) : Built G p r E X N es m := { b with len := Nat.le_trans b.len h }
theorem Built.keep {G G' : Hp} {p r E X N : Addr} {es : List Ev} {n : Nat} (b : Built G p r E X N es n) (k : Keep p G G') (d : DrawsAt G' p r) : Built G' p r E X N es n := by
  have t := tk_keep k b.dr.notup
  obtain ⟨xs, e1, e2⟩ := b.ev
  obtain ⟨ys, e3, e4⟩ := b.ex
  exact { b with dr := d, ev := ⟨xs, k _ _ (b.dr.ne_list e1) e1, e2.keep t⟩, ex := ⟨ys, k _ _ (b.dr.ne_list e3) e3, Td.Ats.keep t e4⟩, nd := k _ _ (b.dr.ne_list b.nd) b.nd }
theorem Built.same {G G' : Hp} {p r E X N : Addr} {es : List Ev} {n : Nat} (b : Built G p r E X N es n) (s : Same G G') : Built G' p r E X N es n := by
  obtain ⟨xs, e1, e2⟩ := b.ev
  obtain ⟨ys, e3, e4⟩ := b.ex
  exact { b with dr := b.dr.same s, ev := ⟨xs, s _ _ e1, e2.keep (tk_same s)⟩, ex := ⟨ys, s _ _ e3, Td.Ats.keep (tk_same s) e4⟩, nd := s _ _ b.nd }
abbrev sLaw : Stmt := topS 5
theorem scLaw : FnScope ["script", "w", "turn", "events", "expected", "noted", "k", "number", "end", "word", "passed", "actual"] ["script"] (defScope sLaw) := ⟨rfl, rfl, rfl, by decide +kernel, rfl, by decide +kernel, by decide +kernel⟩
def spLaw (K : PySem.W.Frag) : Sp := fun vs H Q _ => ∃ (a : Addr) (ns : List Int), vs = [.ref a] ∧ SqL K H a (ns.map V.int) ∧ ns.length ≤ 63 ∧ ∀ H', Q (.bl true) H'
theorem c_law {f : Addr} {fd : FuncData} (T : TxtL mg) (c_law_draws : C8.Cal P w K mg base 1 "_law_draws" (spDraws K) []) (c_law_next : C8.Cal P w K mg base 2 "_law_next" spNext []) (cpages : C8.Cal P w K mg base 1 "pages" spPages [])
    (F : Fun K "law" "law" sLaw f fd) : FnOk P w K mg base CX0 5 f fd ["script"] (spLaw K) := by
  refine F.ok scLaw (fun vs H Q E h => ?_) (fun cdv A outer s H vs Q E hr h => ?_)
  · obtain ⟨a, ns, rfl, _⟩ := h
    rfl
  obtain ⟨a, ns, rfl, hS, h63, q⟩ := h
  have hu := hu_of hr
  have hu64 := hr.units
  refine ⟨_, (pss_cons (ps_set (i := 1) scLaw.nd rfl (Or.inl rfl) (pe_disp (pps_cons pe_str (C8.pe_c c_law_draws hr (by decide) rfl (pa_cons (pv 0) (pa_cons pe_int pa_nil))) (pps_cons pe_str pe_int pps_nil)) rfl rfl (by decide) (by decide)))
    (pss_cons (ps_for PassesOwn.never rfl (pi_range1 rfl T.zrange (pa_cons pe_int pa_nil)) (pg_name (i := 2) scLaw.nd rfl (Or.inl rfl))
      (pss_cons (ps_set (i := 3) scLaw.nd rfl (Or.inl rfl) (pe_lst pa_nil))
    (pss_cons (ps_set (i := 4) scLaw.nd rfl (Or.inl rfl) (pe_lst pa_nil))
    (pss_cons (ps_set (i := 5) scLaw.nd rfl (Or.inl rfl) (pe_lst pa_nil))
    (pss_cons (ps_for PassesOwn.never rfl (pi_range1 rfl T.zrange (pa_cons (C8.pe_c c_law_next hr (by decide) rfl (pa_cons (pv 1) (pa_cons pe_int pa_nil))) pa_nil)) (pg_name (i := 6) scLaw.nd rfl (Or.inl rfl))
      (pss_one (ps_if (pt_cmpR op_eq (C8.pe_c c_law_next hr (by decide) rfl (pa_cons (pv 1) (pa_cons pe_int pa_nil))) pe_int (nomark _))
      (pss_cons (ps_set (i := 7) scLaw.nd rfl (Or.inl rfl) (C8.pe_c c_law_next hr (by decide) rfl (pa_cons (pv 1) (pa_cons pe_int pa_nil))))
    (pss_cons (ps_expr (pe_bm PySem.F.plainAttrs_list PySem.F.slot_list_append PySem.F.type_list_append mt_append (pv 3) (pa_cons (pe_tup (pa_cons pe_str (pa_cons (pv 7) pa_nil))) pa_nil)))
    (pss_one (ps_if (pt_cmpR op_notIn_seq (pv 7) (pv 5) rfl)
      (pss_one (ps_expr (pe_bm PySem.F.plainAttrs_list PySem.F.slot_list_append PySem.F.type_list_append mt_append (pv 5) (pa_cons (pv 7) pa_nil))))
      pss_nil))))
      (pss_cons (ps_set (i := 7) scLaw.nd rfl (Or.inl rfl) (pe_op op_sub (C8.pe_c c_law_next hr (by decide) rfl (pa_cons (pv 1) (pa_cons pe_int pa_nil))) pe_int))
    (pss_cons (ps_expr (pe_bm PySem.F.plainAttrs_list PySem.F.slot_list_append PySem.F.type_list_append mt_append (pv 3) (pa_cons (pe_tup (pa_cons pe_str (pa_cons (pv 7) pa_nil))) pa_nil)))
    (pss_one (ps_expr (pe_bm PySem.F.plainAttrs_list PySem.F.slot_list_append PySem.F.type_list_append mt_append (pv 4) (pa_cons (pe_tup (pa_cons (pv 7) (pa_cons (pe_callTy call_tuple_of rfl T.ztuple boot_tuple (pa_cons (pe_callB cr_sortedI rfl T.zsorted PyProof.Rows.boot_sorted (pa_cons (pv 5) pa_nil)) pa_nil)) pa_nil))) pa_nil)))))))))
    (pss_cons (ps_set (i := 8) scLaw.nd rfl (Or.inl rfl) (C8.pe_c c_law_next hr (by decide) rfl (pa_cons (pv 1) (pa_cons pe_int pa_nil))))
    (C8.pss_cut (ps_if (pt_cmpR op_eq (pv 8) pe_int (nomark _))
      (pss_cons (ps_expr (pe_bm PySem.F.plainAttrs_list PySem.F.slot_list_append PySem.F.type_list_append mt_append (pv 3) (pa_cons (pe_tup (pa_cons pe_str pa_nil)) pa_nil)))
    (pss_one (ps_expr (pe_bm PySem.F.plainAttrs_list PySem.F.slot_list_append PySem.F.type_list_append mt_append (pv 4) (pa_cons (pe_tup (pa_cons pe_str (pa_cons (pe_callTy call_tuple_of rfl T.ztuple boot_tuple (pa_cons (pe_callB cr_sortedI rfl T.zsorted PyProof.Rows.boot_sorted (pa_cons (pv 5) pa_nil)) pa_nil)) pa_nil))) pa_nil)))))
      (pss_one (ps_if (pt_cmpR op_eq (pv 8) pe_int (nomark _))
      (pss_cons (ps_set (i := 9) scLaw.nd rfl (Or.inl rfl) (pe_ix ix_list (pe_lst (pa_strs (zs := ["no match", "division by zero", "overflow"]) rfl)) (C8.pe_c c_law_next hr (by decide) rfl (pa_cons (pv 1) (pa_cons pe_int pa_nil))) (fun _ _ => rfl)))
    (pss_cons (ps_expr (pe_bm PySem.F.plainAttrs_list PySem.F.slot_list_append PySem.F.type_list_append mt_append (pv 3) (pa_cons (pe_tup (pa_cons pe_str (pa_cons (pv 9) pa_nil))) pa_nil)))
    (pss_one (ps_expr (pe_bm PySem.F.plainAttrs_list PySem.F.slot_list_append PySem.F.type_list_append mt_append (pv 4) (pa_cons (pe_tup (pa_cons (pv 9) (pa_cons (pe_callTy call_tuple_of rfl T.ztuple boot_tuple (pa_cons (pe_callB cr_sortedI rfl T.zsorted PyProof.Rows.boot_sorted (pa_cons (pv 5) pa_nil)) pa_nil)) pa_nil))) pa_nil))))))
      pss_nil)))
    (pss_cons (ps_set (i := 10) scLaw.nd rfl (Or.inl rfl) (pe_callTy call_tuple_of rfl T.ztuple boot_tuple (pa_cons (pv 3) pa_nil)))
    (pss_cons (ps_set (i := 11) scLaw.nd rfl (Or.inl rfl) (C8.pe_c cpages hr (by decide) rfl (pa_cons (pv 10) pa_nil)))
    (pss_cons (ps_if (PW.pt (pw_or (pt_not (pt_val (pe_callB call_isi rfl T.zisinstance boot_isinstance (pa_cons (pv 11) (pa_cons (pe_bltn (v := .ty "list") rfl T.zlist boot_list rfl) pa_nil))))) (pw_or (pt_cmpR (op_neD hu64) (pv 11) (pv 4) (nomark _)) (pw_or1 (pt_cmpR (op_neD hu64) (pv 10) (pe_callTy call_tuple_of rfl T.ztuple boot_tuple (pa_cons (pv 3) pa_nil)) (nomark _))))))
      (pss_one (ps_ret pe_bl))
      pss_nil)
    (pss_cons (ps_expr (pe_bm PySem.F.plainAttrs_list PySem.F.slot_list_append PySem.F.type_list_append mt_append (pv 11) (pa_cons pe_str pa_nil)))
    (pss_one (ps_if (pt_cmpR (op_neD hu64) (C8.pe_c cpages hr (by decide) rfl (pa_cons (pv 10) pa_nil)) (pv 4) (nomark _))
      (pss_one (ps_ret pe_bl))
      pss_nil)))))))))))))
    (pss_one (ps_ret (pe_cmpR (op_eqD hu64) (C8.pe_c cpages hr (by decide) rfl (pa_cons (pe_tup pa_nil) pa_nil)) (pe_lst pa_nil) (nomark _)))))), ?_⟩
  intro p hp
  refine ⟨_, rfl, a, ns, 140, rfl, (same_new hp _).seq hS, h63, by decide, fun r row H2 hr0 s2 hrow => ?_⟩
  have npr : r ≠ p := fun e => by rw [e, upd_same] at hr0; cases hr0
  have hp2 := s2 _ _ (upd_same (H := H) (a := p) (o := .dK []))
  refine ⟨hp2, [(Sum.inr "draws", V.ref r), (Sum.inr "at", V.int 0)], rfl, (by show 2 ≤ 15; decide), ?_⟩
  have d3 : DrawsAt (upd H2 p (.dK (mergeK [] [(Sum.inr "draws", V.ref r), (Sum.inr "at", V.int 0)]))) p r := ⟨row, 0, by rw [upd_same, dk_merge]; rfl, by rw [upd_ne npr]; exact hrow⟩
  generalize upd H2 p (.dK (mergeK [] [(Sum.inr "draws", V.ref r), (Sum.inr "at", V.int 0)])) = H3 at d3 ⊢
  refine ⟨3, rfl, by decide, by decide, for_range (fun (k : Nat) σ G => ∃ v2 v3 v4 v5 v6 v7 v8 v9 v10 v11 : Option V, σ = [some (.ref a), some (.ref p), v2, v3, v4, v5, v6, v7, v8, v9, v10, v11] ∧ DrawsAt G p r)
    ⟨_, _, _, _, _, _, _, _, _, _, rfl, d3⟩ ?_ ?_⟩
  · rintro j σ G hj ⟨v2, v3, v4, v5, v6, v7, v8, v9, v10, v11, rfl, dG⟩
    refine ⟨(by show 0 ≤ sizeLine; decide), fun E hE => ?_⟩
    obtain ⟨nEp, nEr⟩ := dG.fresh hE
    have dG1 := dG.same (same_new hE (.lst []))
    have e1 : upd G E (.lst []) E = some (.lst []) := upd_same
    generalize upd G E (.lst []) = G1 at dG1 e1 ⊢
    refine ⟨(by show 0 ≤ sizeLine; decide), fun X hX => ?_⟩
    obtain ⟨nXp, nXr⟩ := dG1.fresh hX
    have nEX : E ≠ X := ne_of_none e1 hX
    have sX := same_new hX (.lst [])
    have dG2 := dG1.same sX
    replace e1 := sX _ _ e1
    have e2 : upd G1 X (.lst []) X = some (.lst []) := upd_same
    generalize upd G1 X (.lst []) = G2 at dG2 e1 e2 ⊢
    refine ⟨(by show 0 ≤ sizeLine; decide), fun N hN => ?_⟩
    obtain ⟨nNp, nNr⟩ := dG2.fresh hN
    have nEN : E ≠ N := ne_of_none e1 hN
    have nXN : X ≠ N := ne_of_none e2 hN
    have sN := same_new hN (.lst [])
    have dG3 := dG2.same sN
    replace e1 := sN _ _ e1
    replace e2 := sN _ _ e2
    have e3 : upd G2 N (.lst []) N = some (.lst (([] : List Int).map V.int)) := upd_same
    generalize upd G2 N (.lst []) = G3 at dG3 e1 e2 e3 ⊢
    have b3 : Built G3 p r E X N [] 0 := ⟨dG3, nEX, nEN, nXN, nEr, nXr, nNr, ⟨[], e1, rfl⟩, ⟨[], e2, rfl⟩, e3, Nat.le_refl _, fun e h => by cases h⟩
    clear e1 e2 e3 sX sN dG dG1 dG2 dG3 hE hX hN
    refine ⟨_, rfl, p, r, 41, rfl, by decide, b3.dr, fun cnt G4 c0 c41 k4 d4 => ⟨cnt, rfl, by omega, by omega, for_range
      (fun (k : Nat) σ G => ∃ (v6 v7 : Option V) (es : List Ev), σ = [some (.ref a), some (.ref p), some (.int (0 + (j : Int))), some (.ref E), some (.ref X), some (.ref N), v6, v7, v8, v9, v10, v11] ∧ Built G p r E X N es k)
      ⟨_, _, [], rfl, b3.keep k4 d4⟩ ?_ ?_⟩⟩
    · rintro i σ G5 hi ⟨v6, v7, es, rfl, b5⟩
      have hi : i < (cnt).toNat := hi
      refine ⟨_, rfl, p, r, 2, rfl, by decide, b5.dr, fun m1 G6 _ _ k6 d6 => ⟨rfl, _, rfl, ?_⟩⟩
      have b6 := b5.keep k6 d6
      refine ite2 (fun _ => ?_) (fun _ => ?_)
      · refine ⟨_, rfl, p, r, 21, rfl, by decide, d6, fun n G7 n0 n21 k7 d7 => ?_⟩
        have b7 := b6.keep k7 d7
        obtain ⟨xs, hE7, hxs⟩ := b7.ev
        refine ⟨_, rfl, .inl ⟨rfl, _, SqL.of hE7⟩, _, rfl, by show 2 ≤ sizeLine; decide, fun t ht => ?_⟩
        have s8 := same_new ht (.tup [.str "note", .int n])
        have e8 : upd G7 t (.tup [.str "note", .int n]) t = some (.tup (Ev.note n).row) := upd_same
        have b8 := b7.same s8
        generalize upd G7 t (.tup [.str "note", .int n]) = G8 at s8 e8 b8 ⊢
        have hE8 := s8 _ _ hE7
        have hlx : xs.length ≤ i := by rw [ats_len hxs, List.length_map]; exact b7.len
        refine ⟨E, xs, _, rfl, rfl, hE8, szl (by omega), ?_⟩
        have t9 : TK G8 (upd G8 E (.lst (xs ++ [.ref t]))) := tk_list hE8
        have hN9 : upd G8 E (.lst (xs ++ [.ref t])) N = some (.lst ((prun es).1.map V.int)) := by rw [upd_ne b8.nEN.symm]; exact b8.nd
        refine ⟨_, rfl, _, rfl, N, _, rfl, .inl (SqL.of hN9), rfl, flat_ints _, ?_⟩
        rw [show (if true = true then !inV (.int n) ((prun es).1.map V.int) else inV (.int n) ((prun es).1.map V.int)) = !decide (n ∈ (prun es).1) by rw [if_pos rfl, inV_ints]]
        have pl' : ∀ e ∈ es ++ [.note n], e.plain = true := fun e he => by
          rcases List.mem_append.mp he with h | h
          · exact b7.pl e h
          · rw [List.mem_singleton.mp h]; rfl
        have ln' : (es ++ [Ev.note n]).length ≤ i + 1 := by rw [List.length_append]; exact Nat.succ_le_succ b7.len
        have d9 := b8.dr.off (b8.dr.ne_list hE8) b8.rE (.lst (xs ++ [.ref t]))
        have hxs9 : Td.Ats (upd G8 E (.lst (xs ++ [.ref t]))) ((es ++ [Ev.note n]).map Ev.T) (xs ++ [.ref t]) := by
          rw [List.map_append]
          exact ats_app ((hxs.keep (tk_same s8)).keep t9) (ats_one (at_ev (t9 _ _ e8)))
        obtain ⟨ys, hX8, hys⟩ := b8.ex
        have hX9 : upd G8 E (.lst (xs ++ [.ref t])) X = some (.lst ys) := by rw [upd_ne b8.nEX.symm]; exact hX8
        have hys9 := Td.Ats.keep t9 hys
        have hE9 : upd G8 E (.lst (xs ++ [.ref t])) E = some (.lst (xs ++ [.ref t])) := upd_same
        generalize upd G8 E (.lst (xs ++ [.ref t])) = G9 at t9 hN9 d9 hxs9 hX9 hys9 hE9 ⊢
        by_cases c : n ∈ (prun es).1
        · rw [decide_eq_true c]
          refine ⟨_, rfl, ?_⟩
          refine iteF ?_
          have stp : prun (es ++ [.note n]) = prun es := (prun_snoc es _).trans (if_pos c)
          exact ⟨_, _, es ++ [.note n], rfl, d9, b8.nEX, b8.nEN, b8.nXN, b8.rE, b8.rX, b8.rN, ⟨_, hE9, hxs9⟩, ⟨ys, hX9, by rw [stp]; exact hys9⟩, by rw [stp]; exact hN9, ln', pl'⟩
        · rw [decide_eq_false c]
          refine ⟨_, rfl, ?_⟩
          refine iteT ?_
          have stp : prun (es ++ [.note n]) = ((prun es).1 ++ [n], (prun es).2) := (prun_snoc es _).trans (if_neg c)
          have hll := len_noted es
          have hle := b7.len
          refine ⟨_, rfl, .inl ⟨rfl, _, SqL.of hN9⟩, _, rfl, N, _, _, rfl, rfl, hN9, szl (by rw [List.length_map]; omega), ?_⟩
          have t10 : TK G9 (upd G9 N (.lst ((prun es).1.map V.int ++ [.int n]))) := tk_list hN9
          exact ⟨_, _, es ++ [.note n], rfl, d9.off (d9.ne_list hN9) b8.rN _, b8.nEX, b8.nEN, b8.nXN, b8.rE, b8.rX, b8.rN, ⟨_, by rw [upd_ne b8.nEN]; exact hE9, hxs9.keep t10⟩,
            ⟨ys, by rw [upd_ne b8.nXN]; exact hX9, by rw [stp]; exact Td.Ats.keep t10 hys9⟩, by rw [stp, upd_same, List.map_append]; rfl, ln', pl'⟩
      · refine ⟨_, rfl, p, r, 60, rfl, by decide, d6, fun m G7 n0 n21 k7 d7 => ?_⟩
        refine ⟨_, _, rfl, rfl, ?_⟩
        obtain ⟨n, hn⟩ : ∃ n, n = m - 30 := ⟨_, rfl⟩
        have b7 := b6.keep k7 d7
        obtain ⟨xs, hE7, hxs⟩ := b7.ev
        refine ⟨_, rfl, .inl ⟨rfl, _, SqL.of hE7⟩, .int n, (by rw [hn]; rfl), by show 2 ≤ sizeLine; decide, fun t ht => ?_⟩
        have s8 := same_new ht (.tup [.str "show", .int n])
        have e8 : upd G7 t (.tup [.str "show", .int n]) t = some (.tup (Ev.shw n).row) := upd_same
        have b8 := b7.same s8
        generalize upd G7 t (.tup [.str "show", .int n]) = G8 at s8 e8 b8 ⊢
        have hE8 := s8 _ _ hE7
        have hlx : xs.length ≤ i := by rw [ats_len hxs, List.length_map]; exact b7.len
        refine ⟨E, xs, _, rfl, rfl, hE8, szl (by omega), ?_⟩
        have t9 : TK G8 (upd G8 E (.lst (xs ++ [.ref t]))) := tk_list hE8
        have hN9 : upd G8 E (.lst (xs ++ [.ref t])) N = some (.lst ((prun es).1.map V.int)) := by rw [upd_ne b8.nEN.symm]; exact b8.nd
        have pl' : ∀ e ∈ es ++ [.shw n], e.plain = true := fun e he => by
          rcases List.mem_append.mp he with h | h
          · exact b7.pl e h
          · rw [List.mem_singleton.mp h]; rfl
        have ln' : (es ++ [Ev.shw n]).length ≤ i + 1 := by rw [List.length_append]; exact Nat.succ_le_succ b7.len
        have d9 := b8.dr.off (b8.dr.ne_list hE8) b8.rE (.lst (xs ++ [.ref t]))
        have hxs9 : Td.Ats (upd G8 E (.lst (xs ++ [.ref t]))) ((es ++ [Ev.shw n]).map Ev.T) (xs ++ [.ref t]) := by
          rw [List.map_append]
          exact ats_app ((hxs.keep (tk_same s8)).keep t9) (ats_one (at_ev (t9 _ _ e8)))
        obtain ⟨ys, hX8, hys⟩ := b8.ex
        have hX9 : upd G8 E (.lst (xs ++ [.ref t])) X = some (.lst ys) := by rw [upd_ne b8.nEX.symm]; exact hX8
        have hys9 := Td.Ats.keep t9 hys
        have hE9 : upd G8 E (.lst (xs ++ [.ref t])) E = some (.lst (xs ++ [.ref t])) := upd_same
        generalize upd G8 E (.lst (xs ++ [.ref t])) = G9 at t9 hN9 d9 hxs9 hX9 hys9 hE9 ⊢
        have stp : prun (es ++ [.shw n]) = ((prun es).1, (prun es).2 ++ [.tup [.int n, nt (prun es).1]]) := prun_snoc es _
        refine ⟨_, rfl, .inl ⟨rfl, _, SqL.of hX9⟩, .int n, (by rw [hn]; rfl), _, rfl, N, _, rfl, SqL.of hN9, fun zs pz pm up hpz => ?_⟩
        have s10 := same_new hpz (.lst (zs.map V.int))
        have e10 : upd G9 pz (.lst (zs.map V.int)) pz = some (.lst (zs.map V.int)) := upd_same
        generalize upd G9 pz (.lst (zs.map V.int)) = G10 at s10 e10 ⊢
        refine ⟨pz, _, rfl, .inl ⟨SqL.of e10, fun t1 ht1 => ?_⟩⟩
        have s11 := same_new ht1 (.tup (zs.map V.int))
        have e11 : upd G10 t1 (.tup (zs.map V.int)) t1 = some (.tup ((srt (prun es).1).map V.int)) := by rw [upd_same, srt_eq pm up]
        generalize upd G10 t1 (.tup (zs.map V.int)) = G11 at s11 e11 ⊢
        refine ⟨by show 2 ≤ sizeLine; decide, fun t2 ht2 => ?_⟩
        have s12 := same_new ht2 (.tup [.int n, .ref t1])
        have e12 : upd G11 t2 (.tup [.int n, .ref t1]) t2 = some (.tup [.int n, .ref t1]) := upd_same
        generalize upd G11 t2 (.tup [.int n, .ref t1]) = G12 at s12 e12 ⊢
        have s912 := sameT s10 (sameT s11 s12)
        have hX12 := s912 _ _ hX9
        have hyl : ys.length = (prun es).2.length := ats_len hys
        have hfl := len_found es
        have hle := b7.len
        refine ⟨X, ys, _, rfl, rfl, hX12, szl (by omega), ?_⟩
        have t13 : TK G12 (upd G12 X (.lst (ys ++ [.ref t2]))) := tk_list hX12
        have d12 := d9.same s912
        exact ⟨_, _, es ++ [.shw n], rfl, d12.off (d12.ne_list hX12) b8.rX _, b8.nEX, b8.nEN, b8.nXN, b8.rE, b8.rX, b8.rN, ⟨_, by rw [upd_ne b8.nEX]; exact s912 _ _ hE9, (hxs9.keep (tk_same s912)).keep t13⟩,
          ⟨_, upd_same, by rw [stp]; exact ats_app (Td.Ats.keep t13 (Td.Ats.keep (tk_same s912) hys9)) (ats_one ⟨t2, _, rfl, t13 _ _ e12, _, _, rfl, rfl, _, _, rfl, nt_at (t13 _ _ (s12 _ _ e11)), rfl⟩)⟩,
          by rw [stp, upd_ne b8.nXN.symm]; exact s912 _ _ hN9, ln', pl'⟩
    · rintro σ G5 ⟨v6, v7, es, rfl, b5⟩
      have hlen : es.length ≤ 41 := Nat.le_trans b5.len (by omega)
      clear b3 k4 d4
      refine ⟨_, rfl, p, r, 3, rfl, by decide, b5.dr, fun m1 G6 m0 m3 k6 d6 => ?_⟩
      have b6 := b5.keep k6 d6
      obtain ⟨okl, okd⟩ := prun_ok es
      obtain ⟨pkl, pkd⟩ := plain_ok es b6.pl
      refine ⟨fun σ G => ∃ (v9 : Option V) (fs : List Ev) (xs ys : List V), σ = [some (.ref a), some (.ref p), some (.int (0 + (j : Int))), some (.ref E), some (.ref X), some (.ref N), v6, v7, some (.int m1), v9, v10, v11] ∧ DrawsAt G p r ∧ E ≠ X ∧ G E = some (.lst xs) ∧ G X = some (.lst ys) ∧
        Td.Ats G (fs.map Ev.T) xs ∧ Td.Ats G (pout fs) ys ∧ fs.length ≤ 42 ∧ Td.lays (fs.map Ev.T) = true ∧ Td.deps (fs.map Ev.T) ≤ 3 ∧ Td.lays (pout fs) = true ∧ Td.deps (pout fs) ≤ 3, ?_, ?_⟩
      · obtain ⟨xs, hE6, hxs⟩ := b6.ev
        obtain ⟨ys, hX6, hys⟩ := b6.ex
        have hN6 := b6.nd
        have hxl : xs.length ≤ 41 := by rw [ats_len hxs, List.length_map]; exact hlen
        have hyl : ys.length ≤ 41 := by rw [ats_len hys]; have := len_found es; omega
        refine ⟨_, rfl, rfl, _, rfl, ?_⟩
        refine ite2 (fun _ => ?_) (fun _ => ?_)
        · refine ⟨_, rfl, .inl ⟨rfl, _, SqL.of hE6⟩, by show 1 ≤ sizeLine; decide, fun t ht => ?_⟩
          have s7 := same_new ht (.tup [.str "end"])
          have e7 : upd G6 t (.tup [.str "end"]) t = some (.tup (Ev.fin).row) := upd_same
          have b7 := b6.same s7
          generalize upd G6 t (.tup [.str "end"]) = G7 at s7 e7 b7 ⊢
          have hE7 := s7 _ _ hE6
          refine ⟨E, xs, _, rfl, rfl, hE7, szl (by omega), ?_⟩
          have t8 : TK G7 (upd G7 E (.lst (xs ++ [.ref t]))) := tk_list hE7
          have hN8 : upd G7 E (.lst (xs ++ [.ref t])) N = some (.lst ((prun es).1.map V.int)) := by rw [upd_ne b7.nEN.symm]; exact b7.nd
          have d8 := b7.dr.off (b7.dr.ne_list hE7) b7.rE (.lst (xs ++ [.ref t]))
          have hxs8 : Td.Ats (upd G7 E (.lst (xs ++ [.ref t]))) ((es ++ [Ev.fin]).map Ev.T) (xs ++ [.ref t]) := by
            rw [List.map_append]
            exact ats_app ((hxs.keep (tk_same s7)).keep t8) (ats_one (at_ev (t8 _ _ e7)))
          have hX8 : upd G7 E (.lst (xs ++ [.ref t])) X = some (.lst ys) := by rw [upd_ne b7.nEX.symm]; exact s7 _ _ hX6
          have hys8 := Td.Ats.keep t8 (Td.Ats.keep (tk_same s7) hys)
          have hE8 : upd G7 E (.lst (xs ++ [.ref t])) E = some (.lst (xs ++ [.ref t])) := upd_same
          generalize upd G7 E (.lst (xs ++ [.ref t])) = G8 at t8 hN8 d8 hxs8 hX8 hys8 hE8 ⊢
          refine ⟨_, rfl, .inl ⟨rfl, _, SqL.of hX8⟩, _, rfl, N, _, rfl, SqL.of hN8, fun zs pz pm up hpz => ?_⟩
          have s10 := same_new hpz (.lst (zs.map V.int))
          have e10 : upd G8 pz (.lst (zs.map V.int)) pz = some (.lst (zs.map V.int)) := upd_same
          generalize upd G8 pz (.lst (zs.map V.int)) = G10 at s10 e10 ⊢
          refine ⟨pz, _, rfl, .inl ⟨SqL.of e10, fun t1 ht1 => ?_⟩⟩
          have s11 := same_new ht1 (.tup (zs.map V.int))
          have e11 : upd G10 t1 (.tup (zs.map V.int)) t1 = some (.tup ((srt (prun es).1).map V.int)) := by rw [upd_same, srt_eq pm up]
          generalize upd G10 t1 (.tup (zs.map V.int)) = G11 at s11 e11 ⊢
          refine ⟨by show 2 ≤ sizeLine; decide, fun t2 ht2 => ?_⟩
          have s12 := same_new ht2 (.tup [.str "end", .ref t1])
          have e12 : upd G11 t2 (.tup [.str "end", .ref t1]) t2 = some (.tup [.str "end", .ref t1]) := upd_same
          generalize upd G11 t2 (.tup [.str "end", .ref t1]) = G12 at s12 e12 ⊢
          have s812 := sameT s10 (sameT s11 s12)
          have hX12 := s812 _ _ hX8
          refine ⟨X, ys, _, rfl, rfl, hX12, szl (by omega), ?_⟩
          have t13 : TK G12 (upd G12 X (.lst (ys ++ [.ref t2]))) := tk_list hX12
          have d12 := d8.same s812
          have po : pout (es ++ [.fin]) = (prun es).2 ++ [.tup [.str "end", nt (prun es).1]] := by
            unfold pout
            rw [prun_snoc, List.getLast?_concat]
            rfl
          have hnd := nt_dep (prun es).1
          exact ⟨_, es ++ [.fin], _, _, rfl, d12.off (d12.ne_list hX12) b6.rX _, b6.nEX, by rw [upd_ne b6.nEX]; exact s812 _ _ hE8, upd_same, (hxs8.keep (tk_same s812)).keep t13,
            by rw [po]; exact ats_app (Td.Ats.keep t13 (Td.Ats.keep (tk_same s812) hys8)) (ats_one ⟨t2, _, rfl, t13 _ _ e12, _, _, rfl, rfl, _, _, rfl, nt_at (t13 _ _ (s12 _ _ e11)), rfl⟩),
            by rw [List.length_append]; show es.length + 1 ≤ 42; omega, by rw [List.map_append, lays_app, pkl]; show (true && ((PyData.strOk "end" && true) && true)) = true; rw [sok_end]; rfl,
            by rw [List.map_append, deps_app]; show max _ (max (1 + max 0 0) 0) ≤ 3; omega, by rw [po, lays_app, okl]; show (true && ((PyData.strOk "end" && ((nt (prun es).1).lay && true)) && true)) = true; rw [nt_lay]; exact congrArg (fun b => true && (b && true)) sok_end,
            by rw [po, deps_app]; show max _ (max (1 + max 0 (max (nt (prun es).1).dep 0)) 0) ≤ 3; omega⟩
        · refine ⟨_, rfl, rfl, _, rfl, ?_⟩
          refine ite2 (fun _ => ?_) (fun _ => ?_)
          · refine ⟨by show 3 ≤ sizeLine; decide, fun lz hlz => ?_⟩
            have sz := same_new hlz (.lst ([("no match" : Str), "division by zero", "overflow"].map V.str))
            have ez0 : upd G6 lz (.lst ([("no match" : Str), "division by zero", "overflow"].map V.str)) lz = some (.lst (WORDS.map V.str)) := upd_same
            have bz := b6.same sz
            refine ⟨_, rfl, p, r, 3, rfl, by decide, bz.dr, fun m2 Gw mw0 mw3 kw dw => ?_⟩
            have bw := bz.keep kw dw
            have hEw := kw _ _ (bz.dr.ne_list (sz _ _ hE6)) (sz _ _ hE6)
            have hXw := kw _ _ (bz.dr.ne_list (sz _ _ hX6)) (sz _ _ hX6)
            have tw := (tk_same sz).trans (tk_keep kw bz.dr.notup)
            have hlz1 := kw _ _ (bz.dr.ne_list ez0) ez0
            obtain ⟨z, hz, ez⟩ := at_str (zs := WORDS) mw0 mw3
            have zok := words_ok z hz
            refine ⟨lz, _, m2, _, rfl, rfl, SqL.of hlz1, ez, ?_⟩
            refine ⟨_, rfl, .inl ⟨rfl, _, SqL.of hEw⟩, _, rfl, by show 2 ≤ sizeLine; decide, fun t ht => ?_⟩
            have s7 := same_new ht (.tup [.str "fault", .str z])
            have e7 : upd Gw t (.tup [.str "fault", .str z]) t = some (.tup (Ev.flt z).row) := upd_same
            have b7 := bw.same s7
            generalize upd Gw t (.tup [.str "fault", .str z]) = G7 at s7 e7 b7 ⊢
            have hE7 := s7 _ _ hEw
            refine ⟨E, xs, _, rfl, rfl, hE7, szl (by omega), ?_⟩
            have t8 : TK G7 (upd G7 E (.lst (xs ++ [.ref t]))) := tk_list hE7
            have hN8 : upd G7 E (.lst (xs ++ [.ref t])) N = some (.lst ((prun es).1.map V.int)) := by rw [upd_ne b7.nEN.symm]; exact b7.nd
            have d8 := b7.dr.off (b7.dr.ne_list hE7) b7.rE (.lst (xs ++ [.ref t]))
            have hxs8 : Td.Ats (upd G7 E (.lst (xs ++ [.ref t]))) ((es ++ [Ev.flt z]).map Ev.T) (xs ++ [.ref t]) := by
              rw [List.map_append]
              exact ats_app (((hxs.keep tw).keep (tk_same s7)).keep t8) (ats_one (at_ev (t8 _ _ e7)))
            have hX8 : upd G7 E (.lst (xs ++ [.ref t])) X = some (.lst ys) := by rw [upd_ne b7.nEX.symm]; exact s7 _ _ hXw
            have hys8 := Td.Ats.keep t8 (Td.Ats.keep (tk_same s7) (Td.Ats.keep tw hys))
            have hE8 : upd G7 E (.lst (xs ++ [.ref t])) E = some (.lst (xs ++ [.ref t])) := upd_same
            generalize upd G7 E (.lst (xs ++ [.ref t])) = G8 at t8 hN8 d8 hxs8 hX8 hys8 hE8 ⊢
            refine ⟨_, rfl, .inl ⟨rfl, _, SqL.of hX8⟩, _, rfl, _, rfl, N, _, rfl, SqL.of hN8, fun zs pz pm up hpz => ?_⟩
            have s10 := same_new hpz (.lst (zs.map V.int))
            have e10 : upd G8 pz (.lst (zs.map V.int)) pz = some (.lst (zs.map V.int)) := upd_same
            generalize upd G8 pz (.lst (zs.map V.int)) = G10 at s10 e10 ⊢
            refine ⟨pz, _, rfl, .inl ⟨SqL.of e10, fun t1 ht1 => ?_⟩⟩
            have s11 := same_new ht1 (.tup (zs.map V.int))
            have e11 : upd G10 t1 (.tup (zs.map V.int)) t1 = some (.tup ((srt (prun es).1).map V.int)) := by rw [upd_same, srt_eq pm up]
            generalize upd G10 t1 (.tup (zs.map V.int)) = G11 at s11 e11 ⊢
            refine ⟨by show 2 ≤ sizeLine; decide, fun t2 ht2 => ?_⟩
            have s12 := same_new ht2 (.tup [.str z, .ref t1])
            have e12 : upd G11 t2 (.tup [.str z, .ref t1]) t2 = some (.tup [.str z, .ref t1]) := upd_same
            generalize upd G11 t2 (.tup [.str z, .ref t1]) = G12 at s12 e12 ⊢
            have s812 := sameT s10 (sameT s11 s12)
            have hX12 := s812 _ _ hX8
            refine ⟨X, ys, _, rfl, rfl, hX12, szl (by omega), ?_⟩
            have t13 : TK G12 (upd G12 X (.lst (ys ++ [.ref t2]))) := tk_list hX12
            have d12 := d8.same s812
            have po : pout (es ++ [.flt z]) = (prun es).2 ++ [.tup [.str z, nt (prun es).1]] := by
              unfold pout
              rw [prun_snoc, List.getLast?_concat]
              rfl
            have hnd := nt_dep (prun es).1
            exact ⟨_, es ++ [.flt z], _, _, rfl, d12.off (d12.ne_list hX12) b6.rX _, b6.nEX, by rw [upd_ne b6.nEX]; exact s812 _ _ hE8, upd_same, (hxs8.keep (tk_same s812)).keep t13,
              by rw [po]; exact ats_app (Td.Ats.keep t13 (Td.Ats.keep (tk_same s812) hys8)) (ats_one ⟨t2, _, rfl, t13 _ _ e12, _, _, rfl, rfl, _, _, rfl, nt_at (t13 _ _ (s12 _ _ e11)), rfl⟩),
              by rw [List.length_append]; show es.length + 1 ≤ 42; omega, by rw [List.map_append, lays_app, pkl]; show (true && ((PyData.strOk "fault" && (PyData.strOk z && true)) && true)) = true; rw [zok, sok_fault]; rfl,
              by rw [List.map_append, deps_app]; show max _ (max (1 + max 0 (max 0 0)) 0) ≤ 3; omega, by rw [po, lays_app, okl]; show (true && ((PyData.strOk z && ((nt (prun es).1).lay && true)) && true)) = true; rw [nt_lay, zok]; rfl,
              by rw [po, deps_app]; show max _ (max (1 + max 0 (max (nt (prun es).1).dep 0)) 0) ≤ 3; omega⟩
          · have po : pout es = (prun es).2 := by
              unfold pout
              rw [plast_plain es _ b6.pl, List.append_nil]
            exact ⟨_, es, _, _, rfl, d6, b6.nEX, hE6, hX6, hxs, by rw [po]; exact hys, by omega, pkl, by omega, by rw [po]; exact okl, by rw [po]; omega⟩
      rintro σ G7 ⟨v9, fs, xs, ys, rfl, d7, nEX', hE7, hX7, hxs, hys, h42, l1, l2, l3, l4⟩
      have hxl : xs.length = fs.length := by rw [ats_len hxs, List.length_map]
      have shp : SeqAt.shaped (.list (Td.Ds (pout fs))) = true := Td.shapedL l3 (by omega)
      have she : SeqAt.shaped (.tuple (Td.Ds (fs.map Ev.T))) = true := Td.shapedT l1 (by omega)
      refine ⟨_, rfl, E, _, rfl, .inl ⟨SqL.of hE7, fun pt hpt => ?_⟩⟩
      have s8 := same_new hpt (.tup xs)
      have e8 : upd G7 pt (.tup xs) pt = some (.tup xs) := upd_same
      generalize upd G7 pt (.tup xs) = G8 at s8 e8 ⊢
      refine ⟨_, rfl, pt, xs, fs, rfl, e8, hxs.keep (tk_same s8), by omega, fun pa za G9 hpa s9 epa hza => ?_⟩
      have s79 := sameT s8 s9
      obtain ⟨npa, nra⟩ := (d7.same s8).fresh hpa
      have d9 := d7.same s79
      have hE9 := s79 _ _ hE7
      have hX9 := s79 _ _ hX7
      have hys9 := Td.Ats.keep (tk_same s79) hys
      have hxs9 := Td.Ats.keep (tk_same s79) hxs
      have e9 := s9 _ _ e8
      refine ⟨_, rfl, .ref pa, .ty "list", .type "list", .type "list", true, rfl, .ty _, .base (.lst epa), kit_ty (by decide +kernel), ?_⟩
      refine ⟨_, rfl, ?_⟩
      refine iteF ?_
      refine ⟨_, rfl, _, rfl, _, _, .lst (SqL.of epa) hza.dp, .lst (SqL.of hX9) hys9.dp, shp, shp, _, rfl, ?_⟩
      rw [eqv_self shp]
      refine iteF ?_
      refine ⟨_, rfl, _, rfl, E, _, rfl, .inl ⟨SqL.of hE9, fun pt2 hpt2 => ?_⟩⟩
      have s10 := same_new hpt2 (.tup xs)
      have e10 : upd G9 pt2 (.tup xs) pt2 = some (.tup xs) := upd_same
      generalize upd G9 pt2 (.tup xs) = G10 at s10 e10 ⊢
      refine ⟨_, _, .tup (SqT.of (s10 _ _ e9)) (hxs9.keep (tk_same s10)).dp, .tup (SqT.of e10) (hxs9.keep (tk_same s10)).dp, she, she, _, rfl, ?_⟩
      rw [eqv_self she]
      refine iteF ?_
      have epa10 := s10 _ _ epa
      have hzl : za.length ≤ 100 := by
        rw [ats_len hza]
        unfold pout
        rw [List.length_append]
        have h1 := len_found fs
        have h2 : (plast (prun fs).1 fs.getLast?).length ≤ 1 := by
          cases fs.getLast? with
          | none => exact Nat.zero_le _
          | some e => cases e <;> simp [plast]
        omega
      refine ⟨_, rfl, .inl ⟨rfl, _, SqL.of epa10⟩, pa, za, _, rfl, rfl, epa10, szl (by omega), ?_⟩
      have t11 : TK G10 (upd G10 pa (.lst (za ++ [.str "changed"]))) := tk_list epa10
      have nXpa : X ≠ pa := fun e => by rw [← e] at hpa; rw [s8 _ _ hX7] at hpa; cases hpa
      have d11 := (d9.same s10).off npa nra (.lst (za ++ [.str "changed"]))
      have hX11 : upd G10 pa (.lst (za ++ [.str "changed"])) X = some (.lst ys) := by rw [upd_ne nXpa]; exact s10 _ _ hX9
      have e11 := t11 _ _ (s10 _ _ e9)
      have hxs11 := (hxs9.keep (tk_same s10)).keep t11
      have hys11 := Td.Ats.keep t11 (Td.Ats.keep (tk_same s10) hys9)
      generalize upd G10 pa (.lst (za ++ [.str "changed"])) = G11 at t11 d11 hX11 e11 hxs11 hys11 ⊢
      refine ⟨_, rfl, pt, xs, fs, rfl, e11, hxs11, by omega, fun pb zb G12 hpb s12 epb hzb => ?_⟩
      refine ⟨_, rfl, _, _, .lst (SqL.of epb) hzb.dp, .lst (SqL.of (s12 _ _ hX11)) (Td.Ats.keep (tk_same s12) hys11).dp, shp, shp, _, rfl, ?_⟩
      rw [eqv_self shp]
      refine iteF ?_
      exact ⟨_, _, _, _, _, _, _, _, _, _, rfl, d11.same s12⟩
  · rintro σ G ⟨v2, v3, v4, v5, v6, v7, v8, v9, v10, v11, rfl, dG⟩
    refine ⟨by show 0 ≤ sizeLine; decide, fun t ht => ?_⟩
    refine ⟨t, [], [], rfl, upd_same, rfl, by decide, fun pb zb G12 hpb s12 epb hzb => ?_⟩
    refine ⟨by show 0 ≤ sizeLine; decide, fun l hl => ?_⟩
    cases (show zb = [] from hzb)
    have s13 := same_new hl (.lst [])
    have sh0 : SeqAt.shaped (.list []) = true := Td.shapedL (l := []) rfl (Nat.zero_le _)
    refine ⟨.list [], .list [], .lst (SqL.of (s13 _ _ epb)) .nil, .lst (SqL.of upd_same) .nil, sh0, sh0, ?_⟩
    rw [eqv_self sh0]
    exact q _
end
end Toy

set_option Elab.async false
set_option linter.all false
set_option maxRecDepth 100000
set_option maxHeartbeats 4000000
/-! The last part: what the program's top has left, and the end. -/
namespace Toy
open PySem L2
open PyProof.Rows (envOfC)
theorem all_mk {l : PySem.W.OpenLaw} {w : World} {K : PySem.W.Frag} {h : Heap} {mg : Str → Option Value} {fa : Addr} {f0 f1 f2 f3 : Addr} (X : K.In h) (G : h.Ns mainGlobals mg) (hfa : mg "law" = some (.ref fa))
    {od0 an0 od1 an1 od2 an2 od3 an3 : Option Addr} {sl0 sl1 sl2 sl3 : Array (Option Value)} {oc0 kV0 dc0 pm0 cd0 ct0 oc1 kV1 dc1 pm1 cd1 ct1 oc2 kV2 dc2 pm2 cd2 ct2 oc3 kV3 dc3 pm3 cd3 ct3 : Value}
    (a0 : PySem.W.nsIn K mainGlobals "pages" = some (some (.ref f0)))
    (l0 : K.lookup f0 = some ⟨oc0, od0, .func (PySem.W.fnOf "pages" "pages" (defArgs sPages) (defBody sPages) (defScope sPages) .none kV0 dc0 pm0 an0 cd0 ct0), sl0⟩)
    (c0 : PySem.W.codeIn K cd0 "pages" = true)
    (k0 : PySem.W.keepIn K (.ref f0) = true)
    (a1 : PySem.W.nsIn K mainGlobals "_law_draws" = some (some (.ref f1)))
    (l1 : K.lookup f1 = some ⟨oc1, od1, .func (PySem.W.fnOf "_law_draws" "_law_draws" (defArgs sDraws) (defBody sDraws) (defScope sDraws) .none kV1 dc1 pm1 an1 cd1 ct1), sl1⟩)
    (c1 : PySem.W.codeIn K cd1 "_law_draws" = true)
    (k1 : PySem.W.keepIn K (.ref f1) = true)
    (a2 : PySem.W.nsIn K mainGlobals "_law_next" = some (some (.ref f2)))
    (l2 : K.lookup f2 = some ⟨oc2, od2, .func (PySem.W.fnOf "_law_next" "_law_next" (defArgs sNext) (defBody sNext) (defScope sNext) .none kV2 dc2 pm2 an2 cd2 ct2), sl2⟩)
    (c2 : PySem.W.codeIn K cd2 "_law_next" = true)
    (k2 : PySem.W.keepIn K (.ref f2) = true)
    (a3 : PySem.W.nsIn K mainGlobals "law" = some (some (.ref f3)))
    (l3 : K.lookup f3 = some ⟨oc3, od3, .func (PySem.W.fnOf "law" "law" (defArgs sLaw) (defBody sLaw) (defScope sLaw) .none kV3 dc3 pm3 an3 cd3 ct3), sl3⟩)
    (c3 : PySem.W.codeIn K cd3 "law" = true)
    (k3 : PySem.W.keepIn K (.ref f3) = true)
    (zlen : PySem.W.nsIn K mainGlobals "len" = some none)
    (zint : PySem.W.nsIn K mainGlobals "int" = some none)
    (zrange : PySem.W.nsIn K mainGlobals "range" = some none)
    (zabs : PySem.W.nsIn K mainGlobals "abs" = some none)
    (ztuple : PySem.W.nsIn K mainGlobals "tuple" = some none)
    (zlist : PySem.W.nsIn K mainGlobals "list" = some none)
    (zisinstance : PySem.W.nsIn K mainGlobals "isinstance" = some none)
    (zsorted : PySem.W.nsIn K mainGlobals "sorted" = some none) :
    ∃ fd : FuncData, (∀ (s : Shared) (v : Value), BindsTo s fd ⟨[v], []⟩ [("script", v)]) ∧ ∀ base : Heap, K.In base → base.Ns mainGlobals mg → FnOk l.prog w K mg base CX0 5 fa fd ["script"] (spLaw K) := by
  have e := hfa.symm.trans (PySem.W.mg_of X G a3)
  cases e
  have nlen := PySem.W.mg_none_of X G zlen
  have nint := PySem.W.mg_none_of X G zint
  have nrange := PySem.W.mg_none_of X G zrange
  have nabs := PySem.W.mg_none_of X G zabs
  have ntuple := PySem.W.mg_none_of X G ztuple
  have nlist := PySem.W.mg_none_of X G zlist
  have nisinstance := PySem.W.mg_none_of X G zisinstance
  have nsorted := PySem.W.mg_none_of X G zsorted
  have FPages := fun_mk (st := sPages) l0 c0 k0
  have bPages := FPages.binds (ps := ["events"]) fun _ _ _ _ _ _ us hl => match us, hl with | [_], _ => rfl
  have mPages := PySem.W.mg_of X G a0
  have FDraws := fun_mk (st := sDraws) l1 c1 k1
  have bDraws := FDraws.binds (ps := ["script", "many"]) fun _ _ _ _ _ _ us hl => match us, hl with | [_, _], _ => rfl
  have mDraws := PySem.W.mg_of X G a1
  have FNext := fun_mk (st := sNext) l2 c2 k2
  have bNext := FNext.binds (ps := ["w", "many"]) fun _ _ _ _ _ _ us hl => match us, hl with | [_, _], _ => rfl
  have mNext := PySem.W.mg_of X G a2
  have FLaw := fun_mk (st := sLaw) l3 c3 k3
  have bLaw := FLaw.binds (ps := ["script"]) fun _ _ _ _ _ _ us hl => match us, hl with | [_], _ => rfl
  have mLaw := PySem.W.mg_of X G a3
  refine ⟨PySem.W.fnOf "law" "law" (defArgs sLaw) (defBody sLaw) (defScope sLaw) .none kV3 dc3 pm3 an3 cd3 ct3, fun s v => .of_eq rfl, fun base _ _ => ?_⟩
  have TD : TxtD mg := ⟨nlen, nint, nrange, nabs⟩
  have TP : TxtP mg := ⟨nsorted, ntuple⟩
  have TL : TxtL mg := ⟨nsorted, ntuple, nrange, nisinstance, nlist⟩
  have Cpages := c_pages (P := l.prog) (w := w) (base := base) TP FPages bPages mPages
  have Cdraws := c_draws (P := l.prog) (w := w) (base := base) TD FDraws bDraws mDraws
  have Cnext := c_next (P := l.prog) (w := w) (base := base) TD FNext bNext mNext
  exact c_law TL Cdraws Cnext Cpages FLaw
theorem walk {l : PySem.W.OpenLaw} {q : Program} {loose : List Str} {XP : (Str → Option Value) → Heap → Prop} {YP : World → Heap → Prop} {d : DefRec} {K : Params → PySem.W.Frag} (hn : l.most = some 63) (hdf : d.params.defaults = [])
    (hY : ∀ (w : World) (h : Heap), YP w h → (K w.params).In h)
    (F : ∀ (w : World) (mg : Str → Option Value) (fa : Addr) (h : Heap), (K w.params).In h → h.Ns mainGlobals mg → mg d.name = some (.ref fa) →
      ∃ fd : FuncData, (∀ (s : Shared) (u : Value), BindsTo s fd ⟨[u], []⟩ [("script", u)]) ∧ ∀ base : Heap, (K w.params).In base → base.Ns mainGlobals mg → FnOk l.prog w (K w.params) mg base CX0 5 fa fd ["script"] (spLaw (K w.params))) :
    PySem.W.WalkO q loose XP YP l.row.toRowW d [] (fun f vs => PySem.call f vs) :=
  L2.walk_of (n := 63) (k := 5) (x := "script") (CX := fun _ => CX0) (sp := fun w => spLaw (K w.params)) hn (by decide) hdf ⟨rfl, by decide, by decide⟩ hY F (fun _ _ a ns hl _ hS => ⟨a, ns, rfl, hS, hl, fun _ => rfl⟩) fun _ _ _ _ _ z => z
end Toy
open PySem PySem.W PyProof.Rows
set_option maxRecDepth 100000 in
set_option maxHeartbeats 0 in
theorem PySem.Challenge.cw_needonce_k75_pages_holds : PySem.Challenge.rw_needonce_k75_pages.Holds := by
  w_on; o_law; k_head; (case hw => w_witness2)
  k_fill
  refine Toy.walk (l := PySem.Challenge.rw_needonce_k75_pages) rfl rfl (fun w h Y => PySem.W.kIn_of Y) ?F
  case F =>
    intro w mg fa h KX G hmg
    refine' Toy.all_mk KX G hmg ?a0 ?l0 ?c0 ?k0 ?a1 ?l1 ?c1 ?k1 ?a2 ?l2 ?c2 ?k2 ?a3 ?l3 ?c3 ?k3 ?zlen ?zint ?zrange ?zabs ?ztuple ?zlist ?zisinstance ?zsorted
    (case a0 => k_is)
    (case l0 => k_is)
    (case c0 => k_is)
    (case k0 => k_is)
    (case a1 => k_is)
    (case l1 => k_is)
    (case c1 => k_is)
    (case k1 => k_is)
    (case a2 => k_is)
    (case l2 => k_is)
    (case c2 => k_is)
    (case k2 => k_is)
    (case a3 => k_is)
    (case l3 => k_is)
    (case c3 => k_is)
    (case k3 => k_is)
    (case zlen => k_is)
    (case zint => k_is)
    (case zrange => k_is)
    (case zabs => k_is)
    (case ztuple => k_is)
    (case zlist => k_is)
    (case zisinstance => k_is)
    (case zsorted => k_is)

