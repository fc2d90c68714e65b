import PyProof.Rows.All
import Wide.All
import OpenK.AllK
import Wide.FinOn
import HandS.ForMost
import HandS.IsInst
import KE.OsScanText
import HandS.Codes
import HandS.Conv
import HandS.StrMore
import KE.KStrWords
import KE.KxText
import HandS.SortInts
import HandS.More
import PySem.Challenge.RW_needonce_k66_numbers_that_are_shown
import HandS.TupAny
import HandS.Star
import HandS.Iter
import HandS.Property
import KE.GoesMore
import KE.GoesEnum
import HandS.CallLocal
import HandS.DictComp
set_option Elab.async false
set_option maxRecDepth 100000
set_option maxHeartbeats 4000000
/-! Part A: how defs are called, the drawing of numbers from the script. -/
namespace Toy
open PySem L2
open PyProof.Rows (envOfC)
def topS (i : Nat) : Stmt := PySem.Challenge.pw_needonce_k66_numbers_that_are_shown.main.body.getD i (.Pass ⟨0, 0, 0, 0⟩)
theorem boot_min : bootBuiltins "min" = some (.builtin "min") := by decide +kernel
theorem boot_isinstance : bootBuiltins "isinstance" = some (.builtin "isinstance") := by decide +kernel
theorem boot_abs : bootBuiltins "abs" = some (.builtin "abs") := by decide +kernel
theorem boot_int : bootBuiltins "int" = some (.type "int") := by decide +kernel
theorem boot_list : bootBuiltins "list" = some (.type "list") := by decide +kernel
/-- a written row of texts: what it is -/
def tStrs (zs : List Str) : TA := fun _ H Q => Q (zs.map V.str) H
def strE : Expr → Option Str
  | .Constant (.str z) _ _ => some z
  | _ => none
theorem strE_is {e : Expr} {z : Str} (h : strE e = some z) : ∃ j pos, e = .Constant (.str z) j pos := by
  unfold strE at h
  split at h
  · cases h
    exact ⟨_, _, rfl⟩
  · cases h
/-- a written row of texts -/
theorem pa_strs {X : Cx} : ∀ {es : List Expr} {zs : List Str}, es.map strE = zs.map some → PA X es (tStrs zs)
  | [], [], _ => pa_nil
  | [], _ :: _, h => by cases h
  | _ :: _, [], h => by cases h
  | e :: es, z :: zs, h => by
    rw [List.map_cons, List.map_cons] at h
    obtain ⟨h1, h2⟩ := List.cons.inj h
    obtain ⟨j, pos, rfl⟩ := strE_is h1
    exact pa_cons pe_str (pa_strs h2)
theorem strs_read {zs : List Str} {σ : L2.St} {H : Hp} {Q : List V → Hp → Prop} (h : Q (zs.map V.str) H) : tStrs zs σ H Q := h
/-- what the proofs ask of the module's names -/
structure TxtD (mg : Str → Option Value) : Prop where
  zlen : mg "len" = none
  zint : mg "int" = none
  zrange : mg "range" = none
  zabs : mg "abs" = none
section
variable {P : Program} {w : World} {K : PySem.W.Frag} {mg : Str → Option Value} {base : Heap} 
/-- a def as one that may be called by its name -/
theorem cal_of {x : Str} {st : Stmt} {f : Addr} {fd : FuncData} {N ps : List Str} {k : Nat} {sp : Sp} (F : Fun K x x st f fd) (hm : mg x = some (.ref f)) (b : Binds K fd ps []) (S : FnScope N ps (defScope st)) (len : ∀ vs H Q E, sp vs H Q E → vs.length = ps.length)
    (hbody : ∀ (cdv : Value) (A : Around) (outer : List Env) (s : Shared) (H : Hp) (vs : List V) (Q : VK) (E : XK), Room k (A.deeper (envOfC x (defScope st) s.heap.objs.size f cdv)) → sp vs H Q E →
      ∃ t, PSs (cxOf CX0 P w K mg base N x (defScope st) f cdv A outer s H E).nox (defBody st) t ∧ t { nx := fun _ H' => Q .non H', rt := Q } (start N vs) H) : C8.Cal P w K mg base (k + 1) x sp [] :=
  ⟨f, fd, ps, [], F.ok S len hbody, hm, F.kp, b, .nil⟩
theorem same_new {H : Hp} {p : Addr} (h : H p = none) (o : HO) : Same H (upd H p o) := fun b u q => by rw [upd_ne (ne_of_none q h)]; exact q
theorem same_upd {H H' : Hp} {p : Addr} (h : H p = none) (s : Same H H') (o : HO) : Same H (upd H' p o) := fun b u q => by rw [upd_ne (ne_of_none q h)]; exact s b u q
theorem szl {n : Nat} (h : n ≤ 100000) : n < sizeLine := Nat.lt_of_le_of_lt h (by decide)
theorem at_ok {α : Type} {xs : List α} {k : Nat} (h : k < xs.length) : atI xs (0 + (k : Int)) = some xs[k] := by
  rw [Int.zero_add]
  exact atI_nat (List.getElem?_eq_getElem h)
theorem at_int {ns : List Int} {i : Int} (h0 : 0 ≤ i) (h1 : i < (ns.length : Int)) : ∃ v : Int, atI (ns.map V.int) i = some (.int v) := by
  have hk : i.toNat < ns.length := by omega
  refine ⟨ns[i.toNat], ?_⟩
  have q : atI (ns.map V.int) ((i.toNat : Nat) : Int) = some (.int ns[i.toNat]) := atI_nat (by rw [List.getElem?_map, List.getElem?_eq_getElem hk] <;> rfl)
  rw [show ((i.toNat : Nat) : Int) = i by omega] at q
  exact q

/-! ### the draws of a script -/
def dk2 (r : Addr) (i : Int) : List (Key × V) := [(Sum.inr "draws", .ref r), (Sum.inr "at", .int i)]
theorem nk_da : ¬ (Sum.inr ("draws" : Str) : Key) = Sum.inr ("at" : Str) := by decide +kernel
theorem dk_draws (r : Addr) (i : Int) : valV (dk2 r i) (Sum.inr "draws" : Key) = some (.ref r) := valV_pos rfl
theorem dk_at (r : Addr) (i : Int) : valV (dk2 r i) (Sum.inr "at" : Key) = some (.int i) := (valV_neg nk_da).trans (valV_pos rfl)
theorem dk_put (r : Addr) (i j : Int) : putK (dk2 r i) (Sum.inr "at" : Key) (.int j) = dk2 r j := by
  have h1 : ¬ ("draws" : Str) = "at" := by decide +kernel
  simp [putK, dk2, h1]
theorem dk_merge (r : Addr) : mergeK [] [(Sum.inr "draws", .ref r), (Sum.inr "at", .int 0)] = dk2 r 0 := by
  have h1 : ¬ ("draws" : Str) = "at" := by decide +kernel
  simp [mergeK, putK, dk2, h1]
/-- a reader of draws stands at p -/
def DrawsAt (H : Hp) (p r : Addr) : Prop := ∃ (row : List Int) (i : Nat), H p = some (.dK (dk2 r (i : Int))) ∧ H r = some (.lst (row.map V.int))
theorem DrawsAt.same {H H' : Hp} {p r : Addr} (d : DrawsAt H p r) (s : Same H H') : DrawsAt H' p r := by
  obtain ⟨row, i, h1, h2⟩ := d
  exact ⟨row, i, s _ _ h1, s _ _ h2⟩
theorem DrawsAt.fresh {H : Hp} {p r x : Addr} (d : DrawsAt H p r) (hx : H x = none) : x ≠ p ∧ x ≠ r := by
  obtain ⟨row, i, h1, h2⟩ := d
  exact ⟨fun e => (by rw [e, h1] at hx; cases hx), fun e => (by rw [e, h2] at hx; cases hx)⟩
theorem DrawsAt.off {H : Hp} {p r x : Addr} (d : DrawsAt H p r) (h1 : x ≠ p) (h2 : x ≠ r) (o : HO) : DrawsAt (upd H x o) p r := by
  obtain ⟨row, i, g1, g2⟩ := d
  exact ⟨row, i, by rw [upd_ne h1.symm]; exact g1, by rw [upd_ne h2.symm]; exact g2⟩
/-- all but p stays -/
def Keep (p : Addr) (H H' : Hp) : Prop := ∀ b o, b ≠ p → H b = some o → H' b = some o
abbrev sNext : Stmt := topS 63
theorem scNext : FnScope ["w", "many"] ["w", "many"] (defScope sNext) := ⟨rfl, rfl, rfl, by decide +kernel, rfl, by decide +kernel, by decide +kernel⟩
/-- some number below m; the reader moves on -/
def spNext : Sp := fun vs H Q _ => ∃ (p r : Addr) (m : Int), vs = [.ref p, .int m] ∧ 0 < m ∧ DrawsAt H p r ∧ ∀ (n : Int) (H' : Hp), 0 ≤ n → n < m → Keep p H H' → DrawsAt H' p r → Q (.int n) H'
theorem c_next {f : Addr} {fd : FuncData} (T : TxtD mg) (F : Fun K "_law_next" "_law_next" sNext f fd) (b : Binds K fd ["w", "many"] []) (hm : mg "_law_next" = some (.ref f)) : C8.Cal P w K mg base 2 "_law_next" spNext [] := by
  refine cal_of F hm b scNext (fun vs H Q E h => ?_) (fun cdv A outer s H vs Q E hr h => ?_)
  · obtain ⟨p, r, m, rfl, _⟩ := h
    rfl
  obtain ⟨p, r, m, rfl, hm0, ⟨row, i, hp, hrow⟩, q⟩ := h
  have hu := hu_of hr
  have npr : r ≠ p := ne_of hrow hp (by intro z; cases z)
  refine ⟨_, (pss_cons (ps_daug hu (pv 0) pe_str pe_int ip_add (fun _ _ _ => rfl))
    (pss_cons (ps_if (pt_cmpR op_gt (pe_dget hu (pv 0) pe_str (fun _ _ => rfl)) (pe_callB call_len_seq rfl T.zlen PySem.boot_len (pa_cons (pe_dget hu (pv 0) pe_str (fun _ _ => rfl)) pa_nil)) (nomark _))
      (pss_one (ps_ret pe_int))
      pss_nil)
    (pss_one (ps_ret (pe_op op_mod (pe_callTy call_int1 rfl T.zint boot_int (pa_cons (pe_ix ix_list (pe_dget hu (pv 0) pe_str (fun _ _ => rfl)) (pe_op op_sub (pe_dget hu (pv 0) pe_str (fun _ _ => rfl)) pe_int) (fun _ _ => rfl)) pa_nil)) (pv 1)))))), ?_⟩
  refine ⟨_, rfl, p, _, rfl, (dk_at r i ▸ DGet.k (k := Sum.inr "at") hp), ?_⟩
  refine ⟨_, _, rfl, rfl, _, DPut.k (k := Sum.inr "at") hp (by show 2 < sizeLine; decide), ?_⟩
  rw [dk_put]
  have hp2 : upd H p (.dK (dk2 r ((i : Int) + 1))) p = some (.dK (dk2 r ((i : Int) + 1))) := upd_same
  have hr2 : upd H p (.dK (dk2 r ((i : Int) + 1))) r = some (.lst (row.map V.int)) := by rw [upd_ne npr]; exact hrow
  have fin : ∀ n : Int, 0 ≤ n → n < m → Q (.int n) (upd H p (.dK (dk2 r ((i : Int) + 1)))) := fun n h0 h1 =>
    q n _ h0 h1 (fun b o hb e => by rw [upd_ne hb]; exact e) ⟨row, i + 1, by rw [upd_same]; rfl, hr2⟩
  refine ⟨_, rfl, p, _, rfl, (dk_at r _ ▸ DGet.k (k := Sum.inr "at") hp2), _, rfl, p, _, rfl, (dk_draws r _ ▸ DGet.k (k := Sum.inr "draws") hp2), r, _, rfl, .inl (SqL.of hr2), _, _, rfl, rfl, _, rfl, ?_⟩
  refine ite2 (fun c => ?_) (fun c => ?_)
  · exact fin 0 (by omega) hm0
  · have c' : ¬ (i : Int) + 1 > (((row.map V.int).length : Nat) : Int) := fun z => c (decide_eq_true z)
    rw [List.length_map] at c'
    obtain ⟨v, hv⟩ := at_int (ns := row) (i := (i : Int) + 1 - 1) (by omega) (by omega)
    refine ⟨_, rfl, p, _, rfl, (dk_draws r _ ▸ DGet.k (k := Sum.inr "draws") hp2), _, rfl, p, _, rfl, (dk_at r _ ▸ DGet.k (k := Sum.inr "at") hp2), _, _, rfl, rfl, r, _, _, _, rfl, rfl, SqL.of hr2, hv, .inl ⟨_, rfl, ?_⟩⟩
    refine ⟨_, rfl, _, _, rfl, rfl, hm0, ?_⟩
    exact fin _ (Int.emod_nonneg _ (by omega)) (Int.emod_lt_of_pos _ hm0)
abbrev sDraws : Stmt := topS 62
theorem scDraws : FnScope ["script", "many", "draws", "mixed", "k", "cell", "rest", "turn"] ["script", "many"] (defScope sDraws) := ⟨rfl, rfl, rfl, by decide +kernel, rfl, by decide +kernel, by decide +kernel⟩
/-- some row of whole numbers -/
def spDraws (K : PySem.W.Frag) : Sp := fun vs H Q _ => ∃ (a : Addr) (ns : List Int) (m : Nat), vs = [.ref a, .int (m : Int)] ∧ SqL K H a (ns.map V.int) ∧ ns.length ≤ 63 ∧ m ≤ 1000 ∧ ∀ (r : Addr) (row : List Int) (H' : Hp), H r = none → Same H H' → H' r = some (.lst (row.map V.int)) → Q (.ref r) H'
theorem cut_ints (row : List Int) (lo hi : Option Int) : ∃ row' : List Int, cutV (row.map V.int) lo hi = row'.map V.int := by
  unfold cutV
  simp only [← List.map_drop, ← List.map_take]
  exact ⟨_, rfl⟩
theorem c_draws {f : Addr} {fd : FuncData} (T : TxtD mg) (F : Fun K "_law_draws" "_law_draws" sDraws f fd) (b : Binds K fd ["script", "many"] []) (hm : mg "_law_draws" = some (.ref f)) : C8.Cal P w K mg base 1 "_law_draws" (spDraws K) [] := by
  refine cal_of F hm b scDraws (fun vs H Q E h => ?_) (fun cdv A outer s H vs Q E hr h => ?_)
  · obtain ⟨a, ns, m, rfl, _⟩ := h
    rfl
  obtain ⟨a, ns, m, rfl, hS, h63, hm1, q⟩ := h
  refine ⟨_, (pss_cons (ps_set (i := 2) scDraws.nd rfl (Or.inl rfl) (pe_lst pa_nil))
    (pss_cons (ps_set (i := 3) scDraws.nd rfl (Or.inl rfl) pe_int)
    (pss_cons (ps_for PassesOwn.never rfl (pi_range1 rfl T.zrange (pa_cons (pe_callB call_len_seq rfl T.zlen PySem.boot_len (pa_cons (pv 0) pa_nil)) pa_nil)) (pg_name (i := 4) scDraws.nd rfl (Or.inl rfl))
      (pss_cons (ps_set (i := 5) scDraws.nd rfl (Or.inl rfl) (pe_callB call_abs rfl T.zabs boot_abs (pa_cons (pe_callTy call_int1 rfl T.zint boot_int (pa_cons (pe_ix ix_list (pv 0) (pv 4) (fun _ _ => rfl)) pa_nil)) pa_nil)))
    (pss_cons (ps_set (i := 3) scDraws.nd rfl (Or.inl rfl) (pe_op op_mod (pe_callTy call_int1 rfl T.zint boot_int (pa_cons (pe_op op_add (pe_op op_add (pe_op op_mul (pv 3) pe_int) (pe_op op_mod (pv 5) pe_int)) (pv 4)) pa_nil)) pe_int))
    (pss_cons (ps_set (i := 6) scDraws.nd rfl (Or.inl rfl) pe_int)
    (C8.pss_cut (ps_if (pt_cmpR op_ge (pv 5) (pe_op op_pow pe_int pe_int) (nomark _))
      (pss_one (ps_set (i := 6) scDraws.nd rfl (Or.inl rfl) (pv 5)))
      (pss_cons (ps_expr (pe_bm PySem.F.plainAttrs_list PySem.F.slot_list_append PySem.F.type_list_append mt_append (pv 2) (pa_cons (pe_op op_mod (pe_callTy call_int1 rfl T.zint boot_int (pa_cons (pv 5) pa_nil)) pe_int) pa_nil)))
    (pss_one (ps_expr (pe_bm PySem.F.plainAttrs_list PySem.F.slot_list_append PySem.F.type_list_append mt_append (pv 2) (pa_cons (pe_op op_mod (pe_op op_mod (pe_callTy call_int1 rfl T.zint boot_int (pa_cons (pe_op op_add (pe_op op_mul (pv 3) pe_int) pe_int) pa_nil)) pe_int) pe_int) pa_nil))))))
    (pss_one (ps_for PassesOwn.never rfl (pi_range1 rfl T.zrange (pa_cons pe_int pa_nil)) (pg_name (i := 7) scDraws.nd rfl (Or.inl rfl))
      (pss_one (ps_if (pt_cmpR op_gt (pv 6) pe_int (nomark _))
      (pss_cons (ps_expr (pe_bm PySem.F.plainAttrs_list PySem.F.slot_list_append PySem.F.type_list_append mt_append (pv 2) (pa_cons (pe_op op_mod (pe_callTy call_int1 rfl T.zint boot_int (pa_cons (pv 6) pa_nil)) pe_int) pa_nil)))
    (pss_one (ps_set (i := 6) scDraws.nd rfl (Or.inl rfl) (pe_op op_fdiv (pv 6) pe_int))))
      pss_nil)))))))))
    (pss_cons (ps_for PassesOwn.never rfl (pi_range1 rfl T.zrange (pa_cons (pv 1) pa_nil)) (pg_name (i := 4) scDraws.nd rfl (Or.inl rfl))
      (pss_cons (ps_set (i := 3) scDraws.nd rfl (Or.inl rfl) (pe_op op_mod (pe_callTy call_int1 rfl T.zint boot_int (pa_cons (pe_op op_add (pe_op op_add (pe_op op_mul (pv 3) pe_int) (pv 4)) pe_int) pa_nil)) pe_int))
    (pss_one (ps_expr (pe_bm PySem.F.plainAttrs_list PySem.F.slot_list_append PySem.F.type_list_append mt_append (pv 2) (pa_cons (pe_op op_mod (pe_callTy call_int1 rfl T.zint boot_int (pa_cons (pv 3) pa_nil)) pe_int) pa_nil))))))
    (pss_one (ps_ret (pe_slice sl_list (pv 2) po_none (po_some (pv 1))))))))), ?_⟩
  refine ⟨(by show 0 ≤ sizeLine; decide), fun r hr0 => ?_⟩
  refine ⟨_, rfl, a, _, rfl, .inl ((same_new hr0 _).seq hS), _, rfl, ?_, ?_, for_range
    (fun (k : Nat) σ H2 => ∃ (kk c t x : Option V) (mx : Int) (row : List Int), σ = [some (.ref a), some (.int (m : Int)), some (.ref r), some (.int mx), kk, c, t, x] ∧ Same H H2 ∧ H2 r = some (.lst (row.map V.int)) ∧ row.length ≤ 62 * k)
    ⟨none, none, none, none, 7, [], rfl, same_new hr0 _, upd_same, by simp⟩ ?_ ?_⟩
  · omega
  · rw [List.length_map]
    omega
  · rintro k σ H2 hk ⟨kk, c, t, x, mx, row, rfl, s2, hrow, hl⟩
    have hk' : (k : Int) < (ns.length : Int) := by
      rw [List.length_map] at hk
      omega
    obtain ⟨v, hv⟩ := at_int (ns := ns) (i := 0 + (k : Int)) (by omega) (by omega)
    refine ⟨_, rfl, _, rfl, a, _, _, _, rfl, rfl, s2.seq hS, hv, .inl ⟨_, rfl, _, rfl, ?_⟩⟩
    refine ⟨_, rfl, _, _, rfl, rfl, .inr (by decide), _, rfl, _, _, rfl, rfl, (show (0 : Int) < 1000003 by decide), _, _, rfl, rfl, _, rfl, _, _, rfl, rfl, .inl ⟨_, rfl, _, _, rfl, rfl, (show (0 : Int) < 65537 by decide), ?_⟩⟩
    refine ⟨fun σ H3 => ∃ (c : Option V) (mx x : Int) (t : Option V) (row : List Int), σ = [some (.ref a), some (.int (m : Int)), some (.ref r), some (.int mx), some (.int (0 + (k : Int))), c, some (.int x), t] ∧ Same H H3 ∧ H3 r = some (.lst (row.map V.int)) ∧ row.length ≤ 62 * k + 2, ?_, ?_⟩
    · refine ⟨_, rfl, _, _, rfl, rfl, ⟨by decide, by decide, by decide⟩, _, _, rfl, rfl, _, rfl, ?_⟩
      refine ite2 (fun _ => ?_) (fun _ => ?_)
      · exact ⟨_, rfl, _, _, _, _, row, rfl, s2, hrow, by omega⟩
      · refine ⟨_, rfl, .inl ⟨rfl, _, SqL.of hrow⟩, _, rfl, .inl ⟨_, rfl, _, _, rfl, rfl, (show (0 : Int) < 997 by decide), r, _, _, rfl, rfl, hrow, szl (by rw [List.length_map]; omega), ?_⟩⟩
        have e3 : ∀ z : Int, upd H2 r (.lst (row.map V.int ++ [.int z])) r = some (.lst ((row ++ [z]).map V.int)) := fun z => by rw [upd_same, List.map_append]; rfl
        have s3 : ∀ z : Int, Same H (upd H2 r (.lst (row.map V.int ++ [.int z]))) := fun z => same_upd hr0 s2 _
        refine ⟨_, rfl, .inl ⟨rfl, _, SqL.of (e3 _)⟩, _, rfl, _, _, rfl, rfl, .inr (by decide), _, _, rfl, rfl, .inl ⟨_, rfl, _, _, rfl, rfl, (show (0 : Int) < 65521 by decide), _, _, rfl, rfl, (show (0 : Int) < 997 by decide), r, _, _, rfl, rfl, e3 _, szl (by rw [List.length_map, List.length_append]; show _ + 1 ≤ _; omega), ?_⟩⟩
        refine ⟨_, _, _, _, row ++ [_] ++ [_], rfl, same_upd hr0 (s3 _) _, by rw [upd_same]; simp only [List.map_append]; rfl, ?_⟩
        rw [List.length_append, List.length_append]
        show row.length + 1 + 1 ≤ _
        omega
    rintro σ H3 ⟨c, mx, x, t, row, rfl, s3, hrow, hl⟩
    refine ⟨60, rfl, by decide, by decide, for_range (fun (j : Nat) σ H3 => ∃ (c : Option V) (mx x : Int) (t : Option V) (row : List Int), σ = [some (.ref a), some (.int (m : Int)), some (.ref r), some (.int mx), some (.int (0 + (k : Int))), c, some (.int x), t] ∧ Same H H3 ∧ H3 r = some (.lst (row.map V.int)) ∧ row.length ≤ 62 * k + 2 + j)
      ⟨_, _, _, _, row, rfl, s3, hrow, by omega⟩ ?_ ?_⟩
    · rintro j σ H3 hj ⟨c, mx, x, t, row, rfl, s3, hrow, hl⟩
      refine ⟨_, rfl, _, _, rfl, rfl, _, rfl, ?_⟩
      refine ite2 (fun _ => ?_) (fun _ => ?_)
      · refine ⟨_, rfl, .inl ⟨rfl, _, SqL.of hrow⟩, _, rfl, .inl ⟨_, rfl, _, _, rfl, rfl, (show (0 : Int) < 997 by decide), r, _, _, rfl, rfl, hrow, szl (by rw [List.length_map]; omega), ?_⟩⟩
        refine ⟨_, rfl, _, _, rfl, rfl, ⟨by decide, by decide⟩, ?_⟩
        refine ⟨_, _, _, _, row ++ [_], rfl, same_upd hr0 s3 _, by rw [upd_same, List.map_append]; rfl, ?_⟩
        rw [List.length_append]
        show row.length + 1 ≤ _
        omega
      · exact ⟨_, _, _, _, row, rfl, s3, hrow, by omega⟩
    · rintro σ H3 ⟨c, mx, x, t, row, rfl, s3, hrow, hl⟩
      exact ⟨_, _, _, _, _, row, rfl, s3, hrow, by omega⟩
  · rintro σ H2 ⟨kk, c, t, x, mx, row, rfl, s2, hrow, hl⟩
    rw [List.length_map] at hl
    refine ⟨_, rfl, ?_⟩
    refine ⟨_, rfl, by omega, by omega, for_range (fun (j : Nat) σ H3 => ∃ (kk c t x : Option V) (mx : Int) (row : List Int), σ = [some (.ref a), some (.int (m : Int)), some (.ref r), some (.int mx), kk, c, t, x] ∧ Same H H3 ∧ H3 r = some (.lst (row.map V.int)) ∧ row.length ≤ 4000 + j)
      ⟨_, _, _, _, _, row, rfl, s2, hrow, by omega⟩ ?_ ?_⟩
    · rintro j σ H3 hj ⟨kk, c, t, x, mx, row, rfl, s3, hrow, hl⟩
      have hj : j < ((m : Int)).toNat := hj
      refine ⟨_, rfl, _, _, rfl, rfl, .inr (by decide), _, rfl, _, _, rfl, rfl, _, _, rfl, rfl, .inl ⟨_, rfl, _, _, rfl, rfl, (show (0 : Int) < 65537 by decide), ?_⟩⟩
      refine ⟨_, rfl, .inl ⟨rfl, _, SqL.of hrow⟩, _, rfl, .inl ⟨_, rfl, _, _, rfl, rfl, (show (0 : Int) < 997 by decide), r, _, _, rfl, rfl, hrow, szl (by rw [List.length_map]; omega), ?_⟩⟩
      refine ⟨_, _, _, _, _, row ++ [_], rfl, same_upd hr0 s3 _, by rw [upd_same, List.map_append]; rfl, ?_⟩
      rw [List.length_append]
      show row.length + 1 ≤ _
      omega
    · rintro σ H3 ⟨kk, c, t, x, mx, row, rfl, s3, hrow, hl⟩
      obtain ⟨row', hc⟩ := cut_ints row none (some (m : Int))
      refine ⟨_, rfl, _, rfl, _, rfl, r, _, rfl, SqL.of hrow, fun p hp => ?_⟩
      rw [hc]
      exact q p row' _ (s3.free hp) (same_upd (s3.free hp) s3 _) upd_same
end
end Toy

set_option Elab.async false
set_option linter.all false
set_option maxRecDepth 100000
set_option maxHeartbeats 4000000
/-! Part X: own rules: enumerate of a tuple; d[key] of a written dict; a property. -/
namespace L2
open PySem PySem.Spec PyProof.Rows
set_option maxHeartbeats 1000000 in
theorem meets_enumT (t : Addr) (items : Array Value) :
    Meets (Builtin.«enumerate.__new__» ⟨[.type "enumerate", .ref t], []⟩) (fun _ R s => s.heap.IsTuple t items ∧
      R (.ok (.ret (.ref (s.heap.push { cls := .type "tuple_iterator", data := .fields #[.ref t, .int 0 0] }).objs.size)))
        { s with heap := (s.heap.push { cls := .type "tuple_iterator", data := .fields #[.ref t, .int 0 0] }).push { cls := .type "enumerate", data := .fields #[.none, .bool false, .ref s.heap.objs.size, rawInt 0, .none, .none] } }) :=
  .of_wp fun prog w A R s h => by
    obtain ⟨hp, g, d, tk, os⟩ := s; obtain ⟨h1, h⟩ := h
    have hsub := sub_enumerate
    have q1 : ∀ {A' : Around} {E : Value → Shared → Prop} {Q : Value → Shared → Prop}, Q (.ref hp.objs.size) ⟨hp.push { cls := .type "tuple_iterator", data := .fields #[.ref t, .int 0 0] }, g, d, tk, os⟩ → wpAny (model prog w) A' (pyIter (.ref t)) Q E ⟨hp, g, d, tk, os⟩ :=
      fun q => (begins_tuple t items).iter prog w _ _ ⟨hp, g, d, tk, os⟩ _ h1 q
    wp_walk using q1
    refine wpAny_stack_any fun st => wpAny_pure ?_
    split
    · rename_i c _ _ _ _ _
      cases (c == Value.type "enumerate")
      · wp_walk using q1
        exact ⟨_, rfl, h⟩
      · wp_walk using q1
        exact ⟨_, rfl, h⟩
    · wp_walk using q1
      exact ⟨_, rfl, h⟩
theorem call_enumT {prog : Program} {w : World} {A : Around} {E : Value → Shared → Prop} {s : Shared} {t : Addr} {items : Array Value} {Q : Value → Shared → Prop} (hT : s.heap.IsTuple t items)
    (h : ∀ h', IsEnum h' (s.heap.objs.size + 1) s.heap.objs.size 0 .none → h'.IsTupleIter s.heap.objs.size t 0 → h'.IsTuple t items → h'.objs.size = s.heap.objs.size + 2 →
      (∀ b o, s.heap.get? b = some o → h'.get? b = some o) → Q (.ref (s.heap.objs.size + 1)) { s with heap := h' }) :
    wpAny (model prog w) A (call (.type "enumerate") [.ref t]) Q E s := by
  refine callType_new F.called_enumerate (by decide) (F.typeCall_enumerate_1 _) (F.newCall_enumerate_1 _) (fun obj => F.args_object_init_2 obj _) F.entry_enumerate_new
    (meets_enumT t items) ⟨hT, ?_⟩
  have hz : (s.heap.push { cls := .type "tuple_iterator", data := .fields #[.ref t, .int 0 0] }).objs.size = s.heap.objs.size + 1 := Heap.size_push ..
  show _ ∧ _
  rw [hz]
  have he : IsEnum ((s.heap.push { cls := .type "tuple_iterator", data := .fields #[.ref t, .int 0 0] }).push
      { cls := .type "enumerate", data := .fields #[.none, .bool false, .ref s.heap.objs.size, rawInt 0, .none, .none] }) (s.heap.objs.size + 1) s.heap.objs.size 0 .none := by
    have := Heap.get?_push_size (s.heap.push { cls := .type "tuple_iterator", data := .fields #[.ref t, .int 0 0] })
      (o := { cls := .type "enumerate", data := .fields #[.none, .bool false, .ref s.heap.objs.size, rawInt 0, .none, .none] }) rfl
    rw [hz] at this; exact this
  refine ⟨⟨_, he, rfl⟩, h _ he ⟨_, Heap.get?_push_of_some _ (Heap.get?_push_size _ rfl), rfl, rfl⟩ ((hT.push _).push _) (by rw [Heap.size_push, hz]) fun b o x => Heap.get?_push_of_some _ (Heap.get?_push_of_some _ x)⟩
/-- the tuple at a, each item in a new pair -/
def IteT (K : PySem.W.Frag) (a : Addr) : It :=
  ⟨fun i H => ∃ (xs : List V) (x : V), SqT K H a xs ∧ xs[i]? = some x, fun i H v H' => ∃ T x, v = .ref T ∧ H T = none ∧ H' = upd H T (.tup [.int (i : Nat), x]) ∧ ∀ xs, SqT K H a xs → xs[i]? = some x, fun i H => ∃ xs : List V, SqT K H a xs ∧ xs.length ≤ i⟩
theorem turn_enumT {P : Program} {w : World} {K : PySem.W.Frag} {elts : List Expr} {kk : Nat} {tpos : Pos} (a e it : Addr) (items : Array Value) (hat : a ≠ it) (hae : a ≠ e) :
    Turn P w K (.Tuple elts kk tpos) (IteT K a) [e, it] e (fun i h => (∃ old, IsEnum h e it ((i : Nat) : Int) old) ∧ h.IsTupleIter it a i ∧ e ≠ it) where
  mem := by simp
  obj := fun i h st b hb => by
    obtain ⟨⟨old, he⟩, ⟨o, ho, hc, hd⟩, _⟩ := st
    have e' : b = e ∨ b = it := by simpa using hb
    rcases e' with z | z
    · rw [z]; exact ⟨_, he, fun v q => nomatch q⟩
    · rw [z]; exact ⟨o, ho, fun v q => by rw [hd] at q; cases q⟩
  keep := fun i h h' st k => let ⟨⟨old, he⟩, hi, hne⟩ := st; ⟨⟨old, k e (by simp) _ he⟩, hi.at fun o q => k it (by simp) o q, hne⟩
  item := by
    intro X hP hw hK hc i pins s σ H E I hf st hg
    subst hP hw hK
    obtain ⟨⟨old, he⟩, hit, hne⟩ := st
    obtain ⟨xs, x, hq, hx⟩ := hg
    obtain ⟨its, rv, p, hz⟩ := I.tuple hq
    obtain ⟨u, hu, ru⟩ := rv.get hx
    have hel : e < s.heap.objs.size := Heap.lt_size he
    have hil : it < s.heap.objs.size := by obtain ⟨_, q, _⟩ := hit; exact Heap.lt_size q
    refine wpAny_pyNext_enum_itemD (Draws.tuple (A := X.A.in1) (show X.A.in1.handled = none from I.ok.hd hc) it a hat its.toArray) he ⟨hit, p⟩ (by rw [List.size_toArray]; exact (List.getElem?_eq_some_iff.mp hu).1) hne (by simp [hne, Ne.symm hae]) fun y h' tk hy ho hst' hT hsz hk => ?_
    have ey : y = u := by
      have : its[i]? = some y := by simpa using hy
      rw [hu] at this
      exact (Option.some.inj this).symm
    subst ey
    refine ⟨_, rfl, wpAny_letOwnedTupleGo_enum (s := { s with heap := h', toks := tk + 1 }) ho fun h'' he' sb => ?_⟩
    have hT2 : h''.get? s.heap.objs.size = some { cls := .type "tuple", data := .seq #[.int i tk, y] } := (sb.2 _ (Nat.ne_of_gt hel)).trans hT
    have new : ObjOk X.prog X.w (upd H s.heap.objs.size (.tup [.int (i : Nat), x])) h'' s.heap.objs.size (.tup [.int (i : Nat), x]) :=
      ⟨by show 2 ≤ sizeLine; decide, [.int i tk, y], .cons ⟨_, rfl⟩ (.cons ru .nil), ⟨_, hT2, rfl, _, rfl⟩⟩
    have I1 : Inv X pins σ (upd H s.heap.objs.size (.tup [.int (i : Nat), x])) { s with heap := h'', toks := tk + 1 } :=
      I.turnedNew (ch := [e, it]) (fun b ob hb q => (sb.2 b (fun z => hb (by simp [z]))).trans (hk b ob (fun z => hb (by simp [z])) (fun z => hb (by simp [z])) q)) hf (Nat.le_refl _) new
    refine ⟨.ref s.heap.objs.size, _, I1, rfl, ⟨_, x, rfl, I.hok.fresh (Nat.le_refl _), rfl, fun ys hy => by rw [I.tuple_inj hy hq]; exact hx⟩, ⟨⟨y, ?_⟩, hst'.1.at fun o q => (sb.2 it (Ne.symm hne)).trans q, hne⟩, fun b hb => ?_⟩
    · have e1 : ((i + 1 : Nat) : Int) = (i : Int) + 1 := by omega
      rw [e1]; exact he'
    · have hb' : b < s.heap.objs.size := by
        have e' : b = e ∨ b = it := by simpa using hb
        rcases e' with z | z
        · rw [z]; exact hel
        · rw [z]; exact hil
      rw [upd_ne (Nat.ne_of_lt hb')]
      exact (hf b hb).1
  done := by
    intro X hP hw hK hc i pins s σ H E I hf st hg
    subst hP hw hK
    obtain ⟨⟨old, he⟩, hit, hne⟩ := st
    obtain ⟨xs, hq, hx⟩ := hg
    obtain ⟨its, rv, p, hz⟩ := I.tuple hq
    obtain ⟨f0, f1, f2, f3, f4, f5⟩ := hf it (by simp)
    have hl := rv.length
    have hT : s.TypeIs (.ref e) "enumerate" := ⟨_, he, rfl⟩
    unfold pyNext
    refine wpAny_bind (wpAny_attempt (wpAny_callSpecial?_slot (name := Str.ofString "__next__") hT F.slot_enumerate_next
      (wpAny_call_entry F.slot_enumerate_next hT F.entry_enumerate_next ?_ (F.args_enumerate_next_1 _))))
    show wpAny _ _ (field (.ref e) 2 >>= _) _ _ _
    refine wpAny_bind (wpAny_field he rfl (x := .ref it) rfl ?_)
    refine wpAny_bind (wpAny_nextOf_tuple_end (I.ok.hd hc) hit p (by simp; omega) fun h' ex he' hx' => ?_)
    obtain ⟨o, ho, hcx⟩ := hx'
    refine wpAny_bind (wpAny_isInstance (T := "StopIteration") (b := true) ⟨o, ho, hcx⟩ isSubtype_stop ?_)
    exact wpAny_pure ⟨rfl, I.turned (t' := s.toks) (fun b o hb q => he' b o hb q) f0 f1 f3 f4 f5⟩
  self := fun A i s Q E st h => let ⟨⟨_, he⟩, _⟩ := st; wpAny_pyIter_enum he h
def iEnumT (K : PySem.W.Frag) (ta : TA) : TI := fun σ H R => ta σ H fun vs H1 => ∃ a xs, vs = [.ref a] ∧ SqT K H1 a xs ∧ R (IteT K a) H1
theorem pi_enumT {X : Cx} {e : Expr} {ta : TA} {p pos tpos : Pos} {elts : List Expr} {kk : Nat} (hg : Gl X "enumerate") (hm : X.mg "enumerate" = none) (ha : PA X [e] ta) (hs : starEach [e] X.env = [(false, eval e X.env)] := by rfl) :
    PI X (.Tuple elts kk tpos) (.Call (.Name "enumerate" p) [e] [] pos) (iEnumT X.K ta) := by
  refine ⟨fun pins s σ H R I h => ?_⟩
  refine Call_ (ld_blt I hg hm boot_enumerate (PyProof.Rows.callWith_type1 (thn (ha.run pos pins s σ H _ I h) fun us s1 ⟨vs, H1, I1, r1, q1⟩ => ?_) hs rfl))
  obtain ⟨a, xs, ex, hq, q⟩ := q1
  subst ex
  cases r1 with
  | cons r rr =>
    cases rr
    cases r
    obtain ⟨its, rv, p', hz⟩ := I1.tuple hq
    have hal : a < s1.heap.objs.size := by obtain ⟨_, q, _⟩ := p'; exact Heap.lt_size q
    refine call_enumT p' fun h' he hit ht' hsz hk => wpAny_pyIter_enum he ?_
    have I2 : Inv X pins σ H1 { s1 with heap := h' } := I1.kept (t' := s1.toks) hk
    refine ⟨s1.heap.objs.size + 1, [s1.heap.objs.size + 1, s1.heap.objs.size], _, _, H1, rfl, I2, turn_enumT a (s1.heap.objs.size + 1) s1.heap.objs.size its.toArray (Nat.ne_of_lt hal) (Nat.ne_of_lt (Nat.lt_succ_of_lt hal)), ⟨⟨.none, he⟩, hit, Nat.succ_ne_self _⟩, fun b hb => ?_, q⟩
    have e' : b = s1.heap.objs.size + 1 ∨ b = s1.heap.objs.size := by simpa using hb
    have hle : s1.heap.objs.size ≤ b := by
      rcases e' with z | z
      · rw [z]; exact Nat.le_add_right _ _
      · rw [z]; exact Nat.le_refl _
    exact I1.fpOk hle (I1.hok.fresh hle)
/-- a loop over it -/
theorem for_enumT {K : PySem.W.Frag} {a : Addr} {xs : List V} {g : TG} {tb : TS} {D : Ends} {σ : L2.St} {H : Hp} (Pv : Nat → L2.St → Hp → Prop) (h0 : Pv 0 σ H) (hq : ∀ i σ H, Pv i σ H → SqT K H a xs)
    (hs : ∀ (i : Nat) (x : V) (T : Addr) (σ : L2.St) (H : Hp), xs[i]? = some x → Pv i σ H → H T = none → g (.ref T) σ (upd H T (.tup [.int (i : Nat), x])) fun σ2 H2 => tb { D with nx := Pv (i + 1), ct := Pv (i + 1), bk := D.nx } σ2 H2) (hd : ∀ σ H, Pv xs.length σ H → D.nx σ H) :
    ∃ W : Nat → Nat → L2.St → Hp → Prop, (∃ m, W 0 m σ H) ∧ ∀ i m σ H, W i m σ H →
      ((IteT K a).stop i H ∧ D.nx σ H) ∨ ((IteT K a).go i H ∧ ∃ N : L2.St → Hp → Prop, (∀ σ' H', N σ' H' → ∃ m', m' < m ∧ W (i + 1) m' σ' H') ∧ ∀ v H', (IteT K a).yld i H v H' → g v σ H' fun σ2 H2 => tb { D with nx := N, ct := N, bk := D.nx } σ2 H2) := by
  refine ⟨fun i m σ H => m = xs.length - i ∧ i ≤ xs.length ∧ Pv i σ H, ⟨xs.length, rfl, Nat.zero_le _, h0⟩, ?_⟩
  rintro i m σ H ⟨rfl, hi, p⟩
  have qx := hq i σ H p
  rcases Nat.lt_or_ge i xs.length with lt | ge
  · refine .inr ⟨⟨xs, xs[i], qx, List.getElem?_eq_getElem lt⟩, Pv (i + 1), fun σ' H' p' => ⟨xs.length - (i + 1), by omega, rfl, lt, p'⟩, fun v H' hy => ?_⟩
    obtain ⟨T, x', rfl, hT, rfl, f1⟩ := hy
    exact hs i x' T σ H (f1 xs qx) p hT
  · have e : i = xs.length := by omega
    subst e
    exact .inl ⟨⟨xs, qx, Nat.le_refl _⟩, hd σ H p⟩
/-- d[key], d a dict of the module with text keys -/
theorem ix_kd {X : Cx} {d : Addr} {es : Array DictEntry} {n : Nat} (D : KDict X.K X.w d es n) :
    IxR X (fun x y H Q => ∃ (z : Str) (u0 : Value) (v0 : V), x = .ref d ∧ y = .str z ∧ PySem.W.nsIn X.K d z = some (some u0) ∧ RelV v0 u0 ∧ Q v0 H) := by
  intro value slice pins s σ H x y v u Q I rx ry h hs
  obtain ⟨z, u0, v0, rfl, rfl, e, r, q⟩ := h
  cases rx
  obtain ⟨t, rfl⟩ := ry
  exact PyProof.Rows.tail_any (kd_type D I) slot_dict_getitem.lookup (PySem.wpAny_getItem_of (PySem.strKind_is X.prog X.w z t) (PySem.W.mapOf_K (prog := X.prog) I.kIn D.at_ D.lit) (PySem.W.find_K D.at_ e) ⟨v0, H, I.tok _, r, q⟩) hs
end L2

set_option Elab.async false
set_option linter.all false
set_option maxRecDepth 100000
set_option maxHeartbeats 4000000
/-! Part B: things in plain Lean, how they stand in the heap; what a term is. -/
namespace Toy
open PySem L2
inductive Dd
  | non
  | bl (b : Bool)
  | int (i : Int)
  | str (s : Str)
  | tup (l : List Dd)
  | lst (l : List Dd)
mutual
/-- such a thing stands in the heap as v, in tuples and in lists of B -/
def Dd.At (B : Addr → Prop) (H : Hp) : Dd → V → Prop
  | .non, v => v = .non
  | .bl b, v => v = .bl b
  | .int i, v => v = .int i
  | .str s, v => v = .str s ∧ s.length ≤ 1000
  | .tup l, v => ∃ a xs, v = .ref a ∧ H a = some (.tup xs) ∧ Dd.Ats B H l xs
  | .lst l, v => ∃ a xs, v = .ref a ∧ B a ∧ H a = some (.lst xs) ∧ Dd.Ats B H l xs
def Dd.Ats (B : Addr → Prop) (H : Hp) : List Dd → List V → Prop
  | [], xs => xs = []
  | k :: l, xs => ∃ x ys, xs = x :: ys ∧ k.At B H x ∧ Dd.Ats B H l ys
end
/-- a heap in which the tuples, and the lists of B, stand -/
def Fr (B : Addr → Prop) (H H' : Hp) : Prop := (∀ a xs, H a = some (.tup xs) → H' a = some (.tup xs)) ∧ ∀ a xs, B a → H a = some (.lst xs) → H' a = some (.lst xs)
theorem Fr.refl (B : Addr → Prop) (H : Hp) : Fr B H H := ⟨fun _ _ h => h, fun _ _ _ h => h⟩
theorem Fr.trans {B : Addr → Prop} {H1 H2 H3 : Hp} (h : Fr B H1 H2) (k : Fr B H2 H3) : Fr B H1 H3 := ⟨fun a xs e => k.1 a xs (h.1 a xs e), fun a xs b e => k.2 a xs b (h.2 a xs b e)⟩
theorem fr_same {B : Addr → Prop} {H H' : Hp} (s : Same H H') : Fr B H H' := ⟨fun _ _ e => s _ _ e, fun _ _ _ e => s _ _ e⟩
theorem fr_list {B : Addr → Prop} {H : Hp} {p : Addr} {ys : List V} {o : HO} (h : H p = some (.lst ys)) (n : ¬ B p) : Fr B H (upd H p o) :=
  ⟨fun a xs e => by rw [upd_ne (fun z => by rw [z, h] at e; cases e)]; exact e, fun a xs b e => by rw [upd_ne (fun z => n (by rw [← z]; exact b))]; exact e⟩
theorem fr_dict {B : Addr → Prop} {H : Hp} {p : Addr} {kvs : List (Key × V)} {o : HO} (h : H p = some (.dK kvs)) : Fr B H (upd H p o) :=
  ⟨fun a xs e => by rw [upd_ne (fun z => by rw [z, h] at e; cases e)]; exact e, fun a xs b e => by rw [upd_ne (fun z => by rw [z, h] at e; cases e)]; exact e⟩
theorem DrawsAt.ne_tup {H : Hp} {p r a : Addr} {xs : List V} (d : DrawsAt H p r) (e : H a = some (.tup xs)) : a ≠ p := fun z => by
  obtain ⟨row, i, h1, _⟩ := d
  rw [z, h1] at e
  cases e
theorem DrawsAt.ne_list {H : Hp} {p r a : Addr} {xs : List V} (d : DrawsAt H p r) (e : H a = some (.lst xs)) : a ≠ p := fun z => by
  obtain ⟨row, i, h1, _⟩ := d
  rw [z, h1] at e
  cases e
theorem fr_keep {B : Addr → Prop} {p r : Addr} {H H' : Hp} (k : Keep p H H') (d : DrawsAt H p r) : Fr B H H' :=
  ⟨fun a xs e => k _ _ (d.ne_tup e) e, fun a xs _ e => k _ _ (d.ne_list e) e⟩
theorem sameT {H1 H2 H3 : Hp} (h : Same H1 H2) (k : Same H2 H3) : Same H1 H3 := fun a u e => k a u (h a u e)
mutual
theorem Dd.At.keep {B : Addr → Prop} {H H' : Hp} : ∀ {k : Dd} {v : V}, Fr B H H' → k.At B H v → k.At B H' v
  | .non, _, _, h => h
  | .bl _, _, _, h => h
  | .int _, _, _, h => h
  | .str _, _, _, h => h
  | .tup l, _, t, ⟨a, xs, e, h, hs⟩ => ⟨a, xs, e, t.1 _ _ h, Dd.Ats.keep t hs⟩
  | .lst l, _, t, ⟨a, xs, e, b, h, hs⟩ => ⟨a, xs, e, b, t.2 _ _ b h, Dd.Ats.keep t hs⟩
theorem Dd.Ats.keep {B : Addr → Prop} {H H' : Hp} : ∀ {l : List Dd} {xs : List V}, Fr B H H' → Dd.Ats B H l xs → Dd.Ats B H' l xs
  | [], _, _, h => h
  | k :: l, _, t, ⟨x, ys, e, h, hs⟩ => ⟨x, ys, e, Dd.At.keep t h, Dd.Ats.keep t hs⟩
end
mutual
theorem Dd.At.weak {B C : Addr → Prop} {H : Hp} (hBC : ∀ a xs, H a = some (.lst xs) → B a → C a) : ∀ {k : Dd} {v : V}, k.At B H v → k.At C H v
  | .non, _, h => h
  | .bl _, _, h => h
  | .int _, _, h => h
  | .str _, _, h => h
  | .tup l, _, ⟨a, xs, e, h, hs⟩ => ⟨a, xs, e, h, Dd.Ats.weak hBC hs⟩
  | .lst l, _, ⟨a, xs, e, b, h, hs⟩ => ⟨a, xs, e, hBC _ _ h b, h, Dd.Ats.weak hBC hs⟩
theorem Dd.Ats.weak {B C : Addr → Prop} {H : Hp} (hBC : ∀ a xs, H a = some (.lst xs) → B a → C a) : ∀ {l : List Dd} {xs : List V}, Dd.Ats B H l xs → Dd.Ats C H l xs
  | [], _, h => h
  | k :: l, _, ⟨x, ys, e, h, hs⟩ => ⟨x, ys, e, Dd.At.weak hBC h, Dd.Ats.weak hBC hs⟩
end
/-- what stands in this heap -/
def Ex (H : Hp) (a : Addr) : Prop := H a ≠ none
theorem Dd.At.here {B : Addr → Prop} {H : Hp} {k : Dd} {v : V} (h : k.At B H v) : k.At (Ex H) H v := h.weak fun a xs e _ => by unfold Ex; rw [e]; exact fun z => by cases z
theorem Dd.Ats.here {B : Addr → Prop} {H : Hp} {l : List Dd} {xs : List V} (h : Dd.Ats B H l xs) : Dd.Ats (Ex H) H l xs := h.weak fun a xs e _ => by unfold Ex; rw [e]; exact fun z => by cases z
theorem ats_len {B : Addr → Prop} {H : Hp} : ∀ {l : List Dd} {xs : List V}, Dd.Ats B H l xs → xs.length = l.length
  | [], _, h => by cases h; rfl
  | k :: l, _, ⟨x, ys, e, h, hs⟩ => by
    cases e
    show ys.length + 1 = l.length + 1
    rw [ats_len hs]
theorem ats_app {B : Addr → Prop} {H : Hp} : ∀ {l m : List Dd} {xs ys : List V}, Dd.Ats B H l xs → Dd.Ats B H m ys → Dd.Ats B H (l ++ m) (xs ++ ys)
  | [], m, xs, ys, h, k => by
    cases h
    exact k
  | t :: l, m, _, ys, ⟨x, zs, e, h, hs⟩, k => by
    cases e
    exact ⟨x, zs ++ ys, rfl, h, ats_app hs k⟩
theorem ats_one {B : Addr → Prop} {H : Hp} {k : Dd} {v : V} (h : k.At B H v) : Dd.Ats B H [k] [v] := ⟨v, [], rfl, h, rfl⟩
theorem ats_get {B : Addr → Prop} {H : Hp} : ∀ {l : List Dd} {xs : List V} {i : Nat} {x : V}, Dd.Ats B H l xs → xs[i]? = some x → ∃ k, l[i]? = some k ∧ k.At B H x
  | [], _, i, x, h, e => by cases h; simp at e
  | k :: l, _, 0, x, ⟨y, ys, e, h, hs⟩, ex => by
    cases e
    cases ex
    exact ⟨k, rfl, h⟩
  | k :: l, _, i + 1, x, ⟨y, ys, e, h, hs⟩, ex => by
    cases e
    exact ats_get (l := l) (i := i) hs ex
theorem ats_getI {B : Addr → Prop} {H : Hp} : ∀ {l : List Dd} {xs : List V} {i : Nat} {k : Dd}, Dd.Ats B H l xs → l[i]? = some k → ∃ x, xs[i]? = some x ∧ k.At B H x
  | [], _, i, x, h, e => by simp at e
  | k :: l, _, 0, x, ⟨y, ys, e, h, hs⟩, ex => by
    cases e
    cases ex
    exact ⟨y, rfl, h⟩
  | k :: l, _, i + 1, x, ⟨y, ys, e, h, hs⟩, ex => by
    cases e
    exact ats_getI (l := l) (i := i) hs ex
theorem ats_snoc {B : Addr → Prop} {H : Hp} : ∀ {l : List Dd} {k : Dd} {xs : List V}, Dd.Ats B H (l ++ [k]) xs → ∃ ys y, xs = ys ++ [y] ∧ Dd.Ats B H l ys ∧ k.At B H y
  | [], k, xs, ⟨x, ys, e, h, hs⟩ => by
    cases e
    cases (show ys = [] from hs)
    exact ⟨[], x, rfl, rfl, h⟩
  | t :: l, k, xs, ⟨x, ys, e, h, hs⟩ => by
    cases e
    obtain ⟨zs, y, e2, h2, h3⟩ := ats_snoc hs
    exact ⟨x :: zs, y, by rw [e2]; rfl, ⟨x, zs, rfl, h, h2⟩, h3⟩
theorem ats_rev {B : Addr → Prop} {H : Hp} : ∀ {l : List Dd} {xs : List V}, Dd.Ats B H l xs → Dd.Ats B H l.reverse xs.reverse
  | [], _, h => by cases h; rfl
  | k :: l, _, ⟨x, ys, e, h, hs⟩ => by
    cases e
    rw [List.reverse_cons, List.reverse_cons]
    exact ats_app (ats_rev hs) (ats_one h)
theorem tYes_if {σ : L2.St} {H : Hp} {A B : Hp → Prop} (h : A H) : tYes σ H (fun b H3 => if b = true then A H3 else B H3) := by
  show if true = true then A H else B H
  rw [if_pos rfl]
  exact h
theorem at0 (x : V) (l : List V) : atI (x :: l) 0 = some x := atI_nat (j := 0) rfl
theorem at1 (x y : V) (l : List V) : atI (x :: y :: l) 1 = some y := atI_nat (j := 1) rfl
theorem at2 (x y z : V) (l : List V) : atI (x :: y :: z :: l) 2 = some z := atI_nat (j := 2) rfl
theorem at3 (x y z u : V) (l : List V) : atI (x :: y :: z :: u :: l) 3 = some u := atI_nat (j := 3) rfl
theorem nself (v : V) : (!decide (v = v)) = false := by simp
mutual
def Dd.sz : Dd → Nat
  | .tup l => 1 + Dd.szs l
  | .lst l => 1 + Dd.szs l
  | _ => 1
def Dd.szs : List Dd → Nat
  | [] => 0
  | k :: l => k.sz + Dd.szs l
end
theorem sz_pos : ∀ k : Dd, 1 ≤ k.sz
  | .non => Nat.le_refl _
  | .bl _ => Nat.le_refl _
  | .int _ => Nat.le_refl _
  | .str _ => Nat.le_refl _
  | .tup l => Nat.le_add_right 1 _
  | .lst l => Nat.le_add_right 1 _
theorem szs_app : ∀ l m : List Dd, Dd.szs (l ++ m) = Dd.szs l + Dd.szs m
  | [], m => by simp [Dd.szs]
  | k :: l, m => by
    show k.sz + Dd.szs (l ++ m) = k.sz + Dd.szs l + Dd.szs m
    rw [szs_app l m]
    omega
theorem szs_len : ∀ l : List Dd, l.length ≤ Dd.szs l
  | [] => Nat.le_refl _
  | k :: l => by
    have h1 := sz_pos k
    have h2 := szs_len l
    show l.length + 1 ≤ k.sz + Dd.szs l
    omega
theorem szs_mem : ∀ {l : List Dd} {k : Dd}, k ∈ l → k.sz ≤ Dd.szs l
  | t :: l, k, h => by
    show k.sz ≤ t.sz + Dd.szs l
    rcases List.mem_cons.mp h with e | e
    · rw [e]; omega
    · have := szs_mem e; omega
/-! ### what a term is -/
def isName : Dd → Bool
  | .str s => decide (1 ≤ s.length) && decide (s.length ≤ 80) && s.cps.toList.all fun c => decide (33 ≤ c) && decide (c ≤ 126) && decide (c ≠ 37)
  | _ => false
def isInt : Dd → Bool
  | .int _ => true
  | _ => false
def numIn (lo hi : Int) : Dd → Bool
  | .int i => decide (lo ≤ i) && decide (i ≤ hi)
  | _ => false
def cNum : Dd → Bool := numIn (-1000000000000000) 1000000000000000
def isTup : Dd → Bool
  | .tup _ => true
  | _ => false
def isRow (n : Nat) : Dd → Bool
  | .tup l => decide (l.length = n)
  | _ => false
def areRows (n : Nat) : Dd → Bool
  | .tup l => l.all (isRow n)
  | _ => false
/-- as often as they are the first of their kind -/
def ddK : List Key → List Key → List Key
  | acc, [] => acc
  | acc, k :: ks => ddK (if (acc.any fun j => decide (j = k)) = true then acc else acc ++ [k]) ks
def distK (ks : List Key) : Bool := decide ((ddK [] ks).length = ks.length)
def keyD : Dd → Key
  | .str s => Sum.inr s
  | .int i => Sum.inl i
  | _ => Sum.inl 0
def areNames : Dd → Bool
  | .tup l => l.all isName && distK (l.map keyD)
  | _ => false
def nth (i : Nat) : Dd → Dd
  | .tup l => l.getD i .non
  | _ => .non
def tl : Dd → List Dd
  | .tup l => l
  | _ => []
def isDflt : Dd → Bool
  | .non => true
  | .tup l => decide (l.length = 2) && isName (l.getD 0 .non)
  | _ => false
def signs : List Str := ["+", "-", "*", "div", "mod", "==", "<", "<="]
def isSign : Dd → Bool
  | .str s => decide (s ∈ signs)
  | _ => false
def arg (i : Nat) (r : List Dd) : Dd := r.getD i .non
def fNum (r : List Dd) : Bool := decide (r.length = 1) && cNum (arg 0 r)
def fVar (r : List Dd) : Bool := decide (r.length = 1) && isName (arg 0 r)
def fApp (r : List Dd) : Bool := decide (r.length = 2)
def fLam (r : List Dd) : Bool := decide (r.length = 2) && isName (arg 0 r)
def fLet (r : List Dd) : Bool := decide (r.length = 2) && areRows 2 (arg 0 r) && (decide (0 < (tl (arg 0 r)).length) && areNames (.tup ((tl (arg 0 r)).map (nth 0))))
def fSeq (r : List Dd) : Bool := decide (r.length = 3) && isName (arg 0 r)
def fCon (r : List Dd) : Bool := decide (r.length = 2) && (numIn 0 1000 (arg 0 r) && isTup (arg 1 r))
def fCase (r : List Dd) : Bool := decide (r.length = 3) && areRows 3 (arg 1 r) && isDflt (arg 2 r) && (tl (arg 1 r)).all fun q => numIn 0 1000 (nth 0 q) && areNames (nth 1 q)
def fPick (r : List Dd) : Bool := decide (r.length = 3) && areRows 2 (arg 1 r) && isDflt (arg 2 r) && (((tl (arg 1 r)).map (nth 0)).all cNum && distK (((tl (arg 1 r)).map (nth 0)).map keyD))
def fPrim (r : List Dd) : Bool := decide (r.length = 3) && isSign (arg 0 r)
def fNote (r : List Dd) : Bool := decide (r.length = 2) && numIn 0 1000000000000 (arg 0 r)
def formW (w : Str) (r : List Dd) : Bool :=
  if w = "num" then fNum r else if w = "var" then fVar r else if w = "app" then fApp r else if w = "lam" then fLam r else if w = "let" then fLet r else if w = "seq" then fSeq r
  else if w = "con" then fCon r else if w = "case" then fCase r else if w = "pick" then fPick r else if w = "prim" then fPrim r else if w = "note" then fNote r else false
def formB : Dd → Bool
  | .tup (.str w :: r) => formW w r
  | _ => false
def dfltP (d : Dd) : List Dd := match d with
  | .non => []
  | d => [nth 1 d]
def lastD : Dd → Dd
  | .tup l => l.getLastD .non
  | _ => .non
def gLet (r : List Dd) : List Dd := (tl (arg 0 r)).map (nth 1) ++ [arg 1 r]
def gChoice (r : List Dd) : List Dd := arg 0 r :: ((tl (arg 1 r)).map lastD ++ dfltP (arg 2 r))
def partsW (w : Str) (r : List Dd) : List Dd :=
  if w = "app" then r else if w = "lam" then [arg 1 r] else if w = "let" then gLet r else if w = "seq" then r.drop 1
  else if w = "con" then tl (arg 1 r) else if w = "case" then gChoice r else if w = "pick" then gChoice r
  else if w = "prim" then r.drop 1 else if w = "note" then [arg 1 r] else []
def partsD : Dd → List Dd
  | .tup (.str w :: r) => partsW w r
  | _ => []
def isT : Nat → Dd → Bool
  | 0, _ => false
  | n + 1, k => formB k && (partsD k).all (isT n)
end Toy

set_option Elab.async false
set_option linter.all false
set_option maxRecDepth 100000
set_option maxHeartbeats 4000000
/-! Part C: the machine in plain Lean. -/
namespace Toy
open PySem L2
open PyProof.Rows (envOfC)
def F0 : Addr → Prop := fun _ => False
theorem at_tup {B : Addr → Prop} {H : Hp} {a : Addr} {xs : List V} {l : List Dd} (h : H a = some (.tup xs)) (hs : Dd.Ats B H l xs) : Dd.At B H (.tup l) (.ref a) := ⟨a, xs, rfl, h, hs⟩
theorem ats_cons {B : Addr → Prop} {H : Hp} {x : V} {xs : List V} {k : Dd} {l : List Dd} (h : k.At B H x) (hs : Dd.Ats B H l xs) : Dd.Ats B H (k :: l) (x :: xs) := ⟨x, xs, rfl, h, hs⟩
theorem at_int' {B : Addr → Prop} {H : Hp} {i : Int} : Dd.At B H (.int i) (.int i) := rfl
theorem at_str' {B : Addr → Prop} {H : Hp} {z : Str} (h : z.length ≤ 1000) : Dd.At B H (.str z) (.str z) := ⟨rfl, h⟩
theorem ats_nil {B : Addr → Prop} {H : Hp} : Dd.Ats B H [] [] := rfl
theorem ats_ints {B : Addr → Prop} {H : Hp} : ∀ {l : List Int}, Dd.Ats B H (l.map Dd.int) (l.map V.int)
  | [] => rfl
  | i :: l => ⟨_, _, rfl, rfl, ats_ints⟩
theorem ints_back {B : Addr → Prop} {H : Hp} : ∀ {l : List Int} {xs : List V}, Dd.Ats B H (l.map Dd.int) xs → xs = l.map V.int
  | [], _, h => h
  | i :: l, _, ⟨x, ys, e, h, hs⟩ => by
    rw [e, show x = .int i from h, ints_back hs]
    rfl
/-! ### cells, frames, what the machine does -/
def wsD (ws : List Int) : Dd := .tup (ws.map Dd.int)
inductive Cl
  | lat (b : Dd) (ws : List Int) (s : Int)
  | part (i : Int) (ws : List Int)
  | con (t : Int) (ws : List Int)
  | on (w : Int)
  | hole
def Cl.D : Cl → Dd
  | .lat b ws s => .tup [.str "later", b, wsD ws, .int s]
  | .part i ws => .tup [.str "part", .int i, wsD ws]
  | .con t ws => .tup [.str "con", .int t, wsD ws]
  | .on w => .tup [.str "on", .int w]
  | .hole => .tup [.str "hole"]
def Cl.word : Cl → Str
  | .lat _ _ _ => "later"
  | .part _ _ => "part"
  | .con _ _ => "con"
  | .on _ => "on"
  | .hole => "hole"
def sizeW (z : Str) (n : Nat) : Nat := if z = "con" ∨ z = "part" then 1 + n else if z = "later" then max 2 (1 + n) else 2
def Cl.size : Cl → Nat
  | .lat _ ws _ => max 2 (1 + ws.length)
  | .part _ ws => 1 + ws.length
  | .con _ ws => 1 + ws.length
  | .on _ => 2
  | .hole => 2
def used : List Cl → Int
  | [] => 0
  | c :: cs => (c.size : Int) + used cs
theorem used_app : ∀ a b : List Cl, used (a ++ b) = used a + used b
  | [], b => by simp [used]
  | r :: a, b => by
    show (r.size : Int) + used (a ++ b) = (r.size : Int) + used a + used b
    rw [used_app a b]
    omega
theorem used_set : ∀ {cs : List Cl} {i : Nat} {c d : Cl}, cs[i]? = some d → used (cs.set i c) = used cs + ((c.size : Int) - (d.size : Int))
  | [], i, c, d, h => by simp at h
  | r :: rs, 0, c, d, h => by
    cases h
    show (c.size : Int) + used rs = (r.size : Int) + used rs + ((c.size : Int) - (r.size : Int))
    omega
  | r :: rs, i + 1, c, d, h => by
    show (r.size : Int) + used (rs.set i c) = (r.size : Int) + used rs + ((c.size : Int) - (d.size : Int))
    rw [used_set (cs := rs) (i := i) h]
    omega
inductive Fm
  | show
  | head (w : Int)
  | upd (a : Int)
  | apply (ws : List Int)
  | ch (c : Bool) (rows : List Dd) (d : Dd) (ws : List Int)
  | seq (b : Dd) (ws : List Int)
  | right (s : Str) (o : Dd) (ws : List Int)
  | prim (s : Str) (n : Int)
def chW (c : Bool) : Str := if c = true then "case" else "pick"
def Fm.D : Fm → Dd
  | .show => .tup [.str "show"]
  | .head w => .tup [.str "head", .int w]
  | .upd a => .tup [.str "update", .int a]
  | .apply ws => .tup [.str "apply", wsD ws]
  | .ch c rows d ws => .tup [.str (chW c), .tup rows, d, wsD ws]
  | .seq b ws => .tup [.str "seq", b, wsD ws]
  | .right s o ws => .tup [.str "right", .str s, o, wsD ws]
  | .prim s n => .tup [.str "prim", .str s, .int n]
def Fm.word : Fm → Str
  | .show => "show"
  | .head _ => "head"
  | .upd _ => "update"
  | .apply _ => "apply"
  | .ch c _ _ _ => chW c
  | .seq _ _ => "seq"
  | .right _ _ _ => "right"
  | .prim _ _ => "prim"
inductive Nw
  | enter (w : Int)
  | eval (b : Dd) (ws : List Int)
  | val (w : Int)
  | fin
  | fault (s : Str)
  | loop
  | stuck
  | full
def Nw.D : Nw → Dd
  | .enter w => .tup [.str "enter", .int w]
  | .eval b ws => .tup [.str "eval", b, wsD ws]
  | .val w => .tup [.str "value", .int w]
  | .fin => .tup [.str "end"]
  | .fault s => .tup [.str "fault", .str s]
  | .loop => .tup [.str "loop"]
  | .stuck => .tup [.str "stuck"]
  | .full => .tup [.str "full"]
def Nw.word : Nw → Str
  | .enter _ => "enter"
  | .eval _ _ => "eval"
  | .val _ => "value"
  | .fin => "end"
  | .fault _ => "fault"
  | .loop => "loop"
  | .stuck => "stuck"
  | .full => "full"
def Nw.run : Nw → Bool
  | .enter _ => true
  | .eval _ _ => true
  | .val _ => true
  | _ => false
inductive Ev
  | note (i : Int)
  | shw (i : Int)
  | fin
  | fault (s : Str)
def Ev.D : Ev → Dd
  | .note i => .tup [.str "note", .int i]
  | .shw i => .tup [.str "show", .int i]
  | .fin => .tup [.str "end"]
  | .fault s => .tup [.str "fault", .str s]
/-- what the machine has, but for what it does -/
structure Mc where
  cs : List Cl
  stk : List Fm
  evs : List Ev
  ent : List Int
  ser : Int
def Mc.push (m : Mc) (f : Fm) : Mc := { m with stk := m.stk ++ [f] }
def Mc.ev (m : Mc) (e : Ev) : Mc := { m with evs := m.evs ++ [e] }
def Mc.cell (m : Mc) (c : Cl) : Mc := { m with cs := m.cs ++ [c] }
structure Mc.small (m : Mc) : Prop where
  c : m.cs.length ≤ 90000
  s : m.stk.length ≤ 90000
  e : m.evs.length ≤ 90000
  n : m.ent.length ≤ 90000
/-! ### steps -/
inductive OpS : Dd → List Int → Int → Prop
  | slot {i : Nat} {ws : List Int} {w : Int} : ws[i]? = some w → OpS (.tup [.str "slot", .int (i : Int)]) ws w
  | glob {i : Int} {ws : List Int} : OpS (.tup [.str "global", .int i]) ws (2 * i)
  | num {i : Int} {ws : List Int} : OpS (.tup [.str "number", .int i]) ws (2 * i + 1)
inductive OpsS : List Dd → List Int → List Int → Prop
  | nil {ws : List Int} : OpsS [] ws []
  | cons {o : Dd} {os : List Dd} {ws : List Int} {w : Int} {vs : List Int} : OpS o ws w → OpsS os ws vs → OpsS (o :: os) ws (w :: vs)
theorem OpsS.len {os : List Dd} {ws vs : List Int} (h : OpsS os ws vs) : vs.length = os.length := by
  induction h with
  | nil => rfl
  | cons _ _ ih => rw [List.length_cons, List.length_cons, ih]
theorem OpsS.get {os : List Dd} {ws vs : List Int} (h : OpsS os ws vs) : ∀ {i : Nat} {o : Dd}, os[i]? = some o → ∃ w, vs[i]? = some w ∧ OpS o ws w := by
  induction h with
  | nil => intro i o e; simp at e
  | cons h1 _ ih =>
    intro i o e
    cases i with
    | zero => cases e; exact ⟨_, rfl, h1⟩
    | succ i => exact ih e
def cpW (c : Bool) : Str := if c = true then "con" else "part"
def cpC (c : Bool) (i : Int) (ws : List Int) : Cl := if c = true then .con i ws else .part i ws
theorem cpC_D (c : Bool) (i : Int) (ws : List Int) : (cpC c i ws).D = .tup [.str (cpW c), .int i, wsD ws] := by cases c <;> rfl
/-- a delayed member, its cell, the next serial -/
inductive MbS : Dd → List Int → Int → Cl → Int → Prop
  | lat {os : List Dd} {b : Dd} {ws vs : List Int} {s : Int} : OpsS os ws vs → os.length ≤ 1000 → MbS (.tup [.str "later", .tup os, b]) ws s (.lat b vs s) (s + 1)
  | cp {c : Bool} {i : Int} {os : List Dd} {ws vs : List Int} {s : Int} : OpsS os ws vs → os.length ≤ 1000 → MbS (.tup [.str (cpW c), .int i, .tup os]) ws s (cpC c i vs) s
inductive MbsS : List Dd → List Int → Int → List Cl → Int → Prop
  | nil {ws : List Int} {s : Int} : MbsS [] ws s [] s
  | cons {k : Dd} {ks : List Dd} {ws : List Int} {s s' s'' : Int} {c : Cl} {cs : List Cl} : MbS k ws s c s' → MbsS ks ws s' cs s'' → MbsS (k :: ks) ws s (c :: cs) s''
theorem MbsS.len {ks : List Dd} {ws : List Int} {s s' : Int} {cs : List Cl} (h : MbsS ks ws s cs s') : cs.length = ks.length := by
  induction h with
  | nil => rfl
  | cons _ _ ih => rw [List.length_cons, List.length_cons, ih]
def lets (n k : Nat) : List Int := (List.range k).map fun i : Nat => 2 * ((n : Int) + (i : Int))
/-- the words of bodies -/
inductive Wd
  | give
  | call
  | con
  | prim
  | lt
  | seq
  | ch (c : Bool)
  | note
def Wd.str : Wd → Str
  | .give => "give"
  | .call => "call"
  | .con => "con"
  | .prim => "prim"
  | .lt => "let"
  | .seq => "seq"
  | .ch c => chW c
  | .note => "note"
inductive EvS : Wd → List Dd → List Int → Mc → Nw → Mc → Prop
  | give {o : Dd} {ws : List Int} {m : Mc} {w : Int} : OpS o ws w → EvS .give [o] ws m (.enter w) m
  | call {o : Dd} {os : List Dd} {ws vs : List Int} {m : Mc} {w : Int} : OpS o ws w → OpsS os ws vs → os.length ≤ 1000 → EvS .call [o, .tup os] ws m (.enter w) (m.push (.apply vs))
  | con {t : Int} {os : List Dd} {ws vs : List Int} {m : Mc} : OpsS os ws vs → os.length ≤ 1000 → EvS .con [.int t, .tup os] ws m (.val (2 * (m.cs.length : Int))) (m.cell (.con t vs))
  | prim {z : Str} {o o2 : Dd} {ws : List Int} {m : Mc} {w : Int} : OpS o ws w → z.length ≤ 1000 → EvS .prim [.str z, o, o2] ws m (.enter w) (m.push (.right z o2 ws))
  | lt {ms : List Dd} {b : Dd} {ws : List Int} {m : Mc} {cl : List Cl} {s' : Int} : MbsS ms (ws ++ lets m.cs.length ms.length) m.ser cl s' → ms.length ≤ 1000 → ws.length ≤ 90000 → EvS .lt [.tup ms, b] ws m (.eval b (ws ++ lets m.cs.length ms.length)) { m with cs := m.cs ++ cl, ser := s' }
  | seq {a b : Dd} {ws : List Int} {m : Mc} : EvS .seq [a, b] ws m (.eval a ws) (m.push (.seq b ws))
  | ch {c : Bool} {f d : Dd} {rows : List Dd} {ws : List Int} {m : Mc} : EvS (.ch c) [f, .tup rows, d] ws m (.eval f ws) (m.push (.ch c rows d ws))
  | note {i : Int} {b : Dd} {ws : List Int} {m : Mc} : EvS .note [.int i, b] ws m (.eval b ws) (m.ev (.note i))
inductive EnS : Int → Mc → Nw → Mc → Prop
  | odd {n : Int} {m : Mc} : EnS (2 * n + 1) m (.val (2 * n + 1)) m
  | val {n : Nat} {m : Mc} {c : Cl} : m.cs[n]? = some c → c.word = "con" ∨ c.word = "part" → EnS (2 * (n : Int)) m (.val (2 * (n : Int))) m
  | on {n : Nat} {m : Mc} {w : Int} : m.cs[n]? = some (.on w) → EnS (2 * (n : Int)) m (.enter w) m
  | hole {n : Nat} {m : Mc} : m.cs[n]? = some .hole → EnS (2 * (n : Int)) m .loop m
  | lat {n : Nat} {m : Mc} {b : Dd} {ws : List Int} {s : Int} : m.cs[n]? = some (.lat b ws s) → EnS (2 * (n : Int)) m (.eval b ws) { m with cs := m.cs.set n .hole, ent := m.ent ++ [s], stk := m.stk ++ [.upd (n : Int)] }
/-- what a value is -/
inductive Vl
  | num (n : Int)
  | cell (c : Cl)
def Vl.word : Vl → Str
  | .num _ => "number"
  | .cell c => c.word
inductive VlS : Int → Mc → Vl → Prop
  | odd {n : Int} {m : Mc} : VlS (2 * n + 1) m (.num n)
  | even {n : Nat} {m : Mc} {c : Cl} : m.cs[n]? = some c → VlS (2 * (n : Int)) m (.cell c)
def selC (t n : Int) : List Dd → Option Dd
  | [] => none
  | q :: l => match q with
    | .tup [.int i, .int c, b] => if i = t ∧ c = n then some b else selC t n l
    | _ => selC t n l
def selP (n : Int) : List Dd → Option Dd
  | [] => none
  | q :: l => match q with
    | .tup [.int i, b] => if i = n then some b else selP n l
    | _ => selP n l
def CaseRow (q : Dd) : Prop := ∃ (i c : Int) (b : Dd), q = .tup [.int i, .int c, b]
def PickRow (q : Dd) : Prop := ∃ (i : Int) (b : Dd), q = .tup [.int i, b]
inductive DfS : Dd → List Int → Int → Mc → Nw → Mc → Prop
  | non {ws : List Int} {w : Int} {m : Mc} : DfS .non ws w m (.fault "no match") (m.ev (.fault "no match"))
  | some {d : Dd} {ws : List Int} {w : Int} {m : Mc} : d ≠ .non → ws.length ≤ 90000 → DfS d ws w m (.eval d (ws ++ [w])) m
/-- what a prim gives -/
inductive Pr
  | tf (b : Bool)
  | num (i : Int)
  | fault (s : Str)
def holdsA (s : Str) (i j : Int) : Bool := if s = "==" then decide (i = j) else if s = "<" then decide (i < j) else decide (i ≤ j)
def workA (s : Str) (i j : Int) : Int := if s = "+" then i + j else if s = "-" then i - j else if s = "*" then i * j else if s = "div" then i.fdiv j else i - j * i.fdiv j
def primR (s : Str) (i j : Int) : Pr :=
  if s = "==" ∨ s = "<" ∨ s = "<=" then .tf (holdsA s i j) else if (s = "div" ∨ s = "mod") ∧ j = 0 then .fault "division by zero"
  else if -1000000000000000 ≤ workA s i j ∧ workA s i j ≤ 1000000000000000 then .num (workA s i j) else .fault "overflow"
def NumIn (i : Int) : Prop := -1000000000000000 ≤ i ∧ i ≤ 1000000000000000
def isConL : Vl → Option (Int × List Int)
  | .cell (.con t vs) => some (t, vs)
  | _ => none
/-- a value meets a frame; the frame has been taken off the stack; fs the functions -/
inductive MtS (fs : List (Int × Dd)) : Fm → Int → Mc → Nw → Mc → Prop
  | showEnd {w : Int} {m : Mc} {vs : List Int} : VlS w m (.cell (.con 0 vs)) → MtS fs .show w m .fin (m.ev .fin)
  | showCons {w a b : Int} {m : Mc} : VlS w m (.cell (.con 1 [a, b])) → MtS fs .show w m (.enter a) (m.push (.head b))
  | showBad {w t : Int} {m : Mc} {vs : List Int} : VlS w m (.cell (.con t vs)) → t ≠ 0 → (t ≠ 1 ∨ vs.length ≠ 2) → MtS fs .show w m .stuck m
  | showNo {w : Int} {m : Mc} {v : Vl} : VlS w m v → v.word ≠ "con" → MtS fs .show w m .stuck m
  | head {w r n : Int} {m : Mc} : VlS w m (.num n) → MtS fs (.head r) w m (.enter r) ((m.ev (.shw n)).push .show)
  | headNo {w r : Int} {m : Mc} {v : Vl} : VlS w m v → v.word ≠ "number" → MtS fs (.head r) w m .stuck m
  | upd {w : Int} {a : Nat} {m : Mc} {c : Cl} : m.cs[a]? = some c → MtS fs (.upd (a : Int)) w m (.val w) { m with cs := m.cs.set a (.on w) }
  | part {w ar : Int} {i : Nat} {b : Dd} {vs ws : List Int} {m : Mc} : VlS w m (.cell (.part (i : Int) vs)) → fs[i]? = some (ar, b) → ((vs ++ ws).length : Int) < ar → (vs ++ ws).length ≤ 90000 →
      MtS fs (.apply ws) w m (.val (2 * (m.cs.length : Int))) (m.cell (.part (i : Int) (vs ++ ws)))
  | full {w : Int} {ar i : Nat} {b : Dd} {vs ws : List Int} {m : Mc} : VlS w m (.cell (.part (i : Int) vs)) → fs[i]? = some ((ar : Int), b) → (vs ++ ws).length = ar → (vs ++ ws).length ≤ 90000 →
      MtS fs (.apply ws) w m (.eval b (vs ++ ws)) m
  | over {w : Int} {ar i : Nat} {b : Dd} {vs ws : List Int} {m : Mc} : VlS w m (.cell (.part (i : Int) vs)) → fs[i]? = some ((ar : Int), b) → ar < (vs ++ ws).length → (vs ++ ws).length ≤ 90000 →
      MtS fs (.apply ws) w m (.eval b ((vs ++ ws).take ar)) (m.push (.apply ((vs ++ ws).drop ar)))
  | applyNo {w : Int} {ws : List Int} {m : Mc} {v : Vl} : VlS w m v → v.word ≠ "part" → MtS fs (.apply ws) w m .stuck m
  | case {w t : Int} {rows : List Dd} {d b : Dd} {vs ws : List Int} {m : Mc} : (∀ q ∈ rows, CaseRow q) → rows.length ≤ 90000 → VlS w m (.cell (.con t vs)) → selC t (vs.length : Int) rows = some b → ws.length + vs.length ≤ 90000 →
      MtS fs (.ch true rows d ws) w m (.eval b (ws ++ vs)) m
  | caseD {w t : Int} {rows : List Dd} {d : Dd} {vs ws : List Int} {m m' : Mc} {n : Nw} : (∀ q ∈ rows, CaseRow q) → rows.length ≤ 90000 → VlS w m (.cell (.con t vs)) → selC t (vs.length : Int) rows = none → DfS d ws w m n m' →
      MtS fs (.ch true rows d ws) w m n m'
  | caseNo {w : Int} {rows : List Dd} {d : Dd} {ws : List Int} {m : Mc} {v : Vl} : VlS w m v → v.word ≠ "con" → MtS fs (.ch true rows d ws) w m .stuck m
  | pick {w k : Int} {rows : List Dd} {d b : Dd} {ws : List Int} {m : Mc} : (∀ q ∈ rows, PickRow q) → rows.length ≤ 90000 → VlS w m (.num k) → selP k rows = some b → MtS fs (.ch false rows d ws) w m (.eval b ws) m
  | pickD {w k : Int} {rows : List Dd} {d : Dd} {ws : List Int} {m m' : Mc} {n : Nw} : (∀ q ∈ rows, PickRow q) → rows.length ≤ 90000 → VlS w m (.num k) → selP k rows = none → DfS d ws w m n m' → MtS fs (.ch false rows d ws) w m n m'
  | pickNo {w : Int} {rows : List Dd} {d : Dd} {ws : List Int} {m : Mc} {v : Vl} : VlS w m v → v.word ≠ "number" → MtS fs (.ch false rows d ws) w m .stuck m
  | seq {w : Int} {b : Dd} {ws : List Int} {m : Mc} : ws.length ≤ 90000 → MtS fs (.seq b ws) w m (.eval b (ws ++ [w])) m
  | right {w n v : Int} {s : Str} {o : Dd} {ws : List Int} {m : Mc} : VlS w m (.num n) → OpS o ws v → s.length ≤ 1000 → MtS fs (.right s o ws) w m (.enter v) (m.push (.prim s n))
  | rightNo {w : Int} {s : Str} {o : Dd} {ws : List Int} {m : Mc} {v : Vl} : VlS w m v → v.word ≠ "number" → MtS fs (.right s o ws) w m .stuck m
  | primT {w i j : Int} {s : Str} {b : Bool} {m : Mc} : VlS w m (.num j) → s ∈ signs → NumIn i → NumIn j → primR s i j = .tf b → MtS fs (.prim s i) w m (.val (2 * (m.cs.length : Int))) (m.cell (.con (if b = true then 1 else 0) []))
  | primN {w i j x : Int} {s : Str} {m : Mc} : VlS w m (.num j) → s ∈ signs → NumIn i → NumIn j → primR s i j = .num x → MtS fs (.prim s i) w m (.val (2 * x + 1)) m
  | primF {w i j : Int} {s f : Str} {m : Mc} : VlS w m (.num j) → s ∈ signs → NumIn i → NumIn j → primR s i j = .fault f → f.length ≤ 1000 → MtS fs (.prim s i) w m (.fault f) (m.ev (.fault f))
  | primNo {w i : Int} {s : Str} {m : Mc} {v : Vl} : VlS w m v → v.word ≠ "number" → MtS fs (.prim s i) w m .stuck m
/-- one step -/
inductive StS (fs : List (Int × Dd)) : Nw → Mc → Nw → Mc → Prop
  | enter {w : Int} {m m' : Mc} {n : Nw} : EnS w m n m' → StS fs (.enter w) m n m'
  | eval {z : Wd} {r : List Dd} {ws : List Int} {m m' : Mc} {n : Nw} : EvS z r ws m n m' → StS fs (.eval (.tup (.str z.str :: r)) ws) m n m'
  | val {w : Int} {f : Fm} {stk : List Fm} {m m' : Mc} {n : Nw} {l : Vl} : m.stk = stk ++ [f] → VlS w m l → MtS fs f w { m with stk := stk } n m' → StS fs (.val w) m n m'
/-- the size that it needs -/
def mbSize : Dd → Int
  | .tup [.str z, a, b] => if z = "later" then (sizeW "later" (tl a).length : Int) else (sizeW z (tl b).length : Int)
  | _ => 0
def needE : Dd → Int
  | .tup (.str z :: r) => if z = "con" then 1 + ((tl (arg 1 r)).length : Int) else if z = "let" then ((tl (arg 0 r)).map mbSize).sum else 0
  | _ => 0
def ineqs : List Str := ["==", "<", "<="]
def needM (fs : List (Int × Dd)) : Fm → Vl → Int
  | .apply ws, .cell (.part i vs) => if ((vs.length + ws.length : Nat) : Int) < (fs.getD i.toNat (0, .non)).1 then 1 + ((vs.length + ws.length : Nat) : Int) else 0
  | .prim s _, .num _ => if s ∈ ineqs then 1 else 0
  | _, _ => 0
theorem sizeW_later (n : Nat) : sizeW "later" n = max 2 (1 + n) := by
  unfold sizeW
  rw [if_neg (by decide +kernel), if_pos rfl]
theorem sizeW_cp (c : Bool) (n : Nat) : sizeW (cpW c) n = 1 + n := by
  unfold sizeW
  cases c
  · exact if_pos (Or.inr rfl)
  · exact if_pos (Or.inl rfl)
theorem MbS.size {k : Dd} {ws : List Int} {s s' : Int} {c : Cl} (h : MbS k ws s c s') : (c.size : Int) = mbSize k := by
  cases h with
  | @lat os b _ vs _ h _ =>
    show ((max 2 (1 + vs.length) : Nat) : Int) = if ("later" : Str) = "later" then ((sizeW "later" os.length : Nat) : Int) else ((sizeW "later" (tl b).length : Nat) : Int)
    rw [if_pos rfl, h.len, sizeW_later]
  | @cp c i os _ vs _ h _ =>
    have e : cpW c ≠ "later" := by cases c <;> decide +kernel
    show ((cpC c i vs).size : Int) = if cpW c = "later" then ((sizeW "later" (tl (.int i)).length : Nat) : Int) else ((sizeW (cpW c) os.length : Nat) : Int)
    rw [if_neg e, ← h.len, sizeW_cp]
    cases c <;> rfl
theorem MbsS.size {ks : List Dd} {ws : List Int} {s s' : Int} {cs : List Cl} (h : MbsS ks ws s cs s') : used cs = (ks.map mbSize).sum := by
  induction h with
  | nil => rfl
  | cons h1 _ ih =>
    rw [List.map_cons, List.sum_cons, ← ih, ← h1.size]
    rfl
end Toy

set_option Elab.async false
set_option linter.all false
set_option maxRecDepth 100000
set_option maxHeartbeats 4000000
/-! Part D: how the machine stands in the heap; the class Heap. -/
namespace Toy
open PySem L2
open PyProof.Rows (envOfC)
theorem met_of {P : Program} {w : World} {K : PySem.W.Frag} {mg : Str → Option Value} {base : Heap} {C : Addr} {m qual : Str} {st : Stmt} {f : Addr} {fd : FuncData} {N ps : List Str} {k : Nat} {sp : Sp} (c : Cls K C) (me : Meth K C m f) (F : Fun K m qual st f fd) (b : Binds K fd ps []) (S : FnScope N ps (defScope st)) (len : ∀ vs H Q E, sp vs H Q E → vs.length = ps.length)
    (hbody : ∀ (cdv : Value) (A : Around) (outer : List PySem.Env) (s : Shared) (H : Hp) (vs : List V) (Q : VK) (E : XK), Room k (A.deeper (envOfC qual (defScope st) s.heap.objs.size f cdv)) → sp vs H Q E →
      ∃ t, PSs (cxOf CX0 P w K mg base N qual (defScope st) f cdv A outer s H E).nox (defBody st) t ∧ t { nx := fun _ H' => Q .non H', rt := Q } (start N vs) H) : C8.Met P w K mg base (k + 1) C m sp [] :=
  ⟨f, fd, ps, [], c, me, F.ok S len hbody, b, .nil⟩
theorem boot_tuple : bootBuiltins "tuple" = some (.type "tuple") := by decide +kernel
theorem boot_max : bootBuiltins "max" = some (.builtin "max") := by decide +kernel
theorem wne {z w : Str} (h : z ≠ w) : decide (V.str z = V.str w) = false := decide_eq_false fun e => h (V.str.inj e)
theorem wtt {z : Str} : decide (V.str z = V.str z) = true := decide_eq_true rfl
theorem inV_strs (x : Str) : ∀ l : List Str, inV (.str x) (l.map V.str) = decide (x ∈ l)
  | [] => by simp [inV]
  | y :: l => by
    have ih := inV_strs x l
    have e : inV (.str x) ((y :: l).map V.str) = (eqV (.str y) (.str x) || inV (.str x) (l.map V.str)) := by simp [inV]
    rw [e, ih]
    by_cases h : x = y
    · subst h
      simp [eqV]
    · have h' : ¬ y = x := fun z => h z.symm
      simp [eqV, h, h']
theorem same_id {H : Hp} : Same H H := fun _ _ e => e
/-! ### fields -/
def fldH (r u : Int) (d : Addr) (n : Int) : List (Str × V) := [("room", .int r), ("used", .int u), ("cells", .ref d), ("next_address", .int n)]
section
variable (r u : Int) (d : Addr) (n : Int)
theorem fldH_next : (fldH r u d n).lookup ("next_address" : Str) = some (.int n) := by rfl
theorem fldH_cells : (fldH r u d n).lookup ("cells" : Str) = some (.ref d) := by rfl
theorem fldH_used : (fldH r u d n).lookup ("used" : Str) = some (.int u) := by rfl
theorem fldH_room : (fldH r u d n).lookup ("room" : Str) = some (.int r) := by rfl
theorem fldH_put_next (m : Int) : putF "next_address" (.int m) (fldH r u d n) = fldH r u d m := by rfl
theorem fldH_put_used (v : Int) : putF "used" (.int v) (fldH r u d n) = fldH r v d n := by rfl
theorem fldH_put_cells (e : Addr) : putF "cells" (.ref e) (fldH r u d n) = fldH r u e n := by rfl
theorem fldH_len : (fldH r u d n).length < 1000 := by show 4 < 1000; decide
theorem fldH_no_make : (fldH r u d n).lookup ("make" : Str) = none := by rfl
theorem fldH_no_cell : (fldH r u d n).lookup ("cell" : Str) = none := by rfl
theorem fldH_no_put : (fldH r u d n).lookup ("put" : Str) = none := by rfl
theorem fldH_no_fits : (fldH r u d n).lookup ("fits" : Str) = none := by rfl
theorem fldH_no_renew : (fldH r u d n).lookup ("renew" : Str) = none := by rfl
theorem fldH_no_addresses : (fldH r u d n).lookup ("addresses" : Str) = none := by rfl
end
def fM (fv : V) (ho : Addr) (ser : Int) (sa : Addr) (nv : V) (ea na : Addr) (co : Int) : List (Str × V) := [("functions", fv), ("heap", .ref ho), ("next_serial", .int ser), ("stack", .ref sa), ("now", nv), ("events", .ref ea), ("entered", .ref na), ("collections", .int co)]
section
variable (fv : V) (ho : Addr) (ser : Int) (sa : Addr) (nv : V) (ea na : Addr) (co : Int)
theorem fM_functions : (fM fv ho ser sa nv ea na co).lookup ("functions" : Str) = some fv := by rfl
theorem fM_heap : (fM fv ho ser sa nv ea na co).lookup ("heap" : Str) = some (.ref ho) := by rfl
theorem fM_serial : (fM fv ho ser sa nv ea na co).lookup ("next_serial" : Str) = some (.int ser) := by rfl
theorem fM_stack : (fM fv ho ser sa nv ea na co).lookup ("stack" : Str) = some (.ref sa) := by rfl
theorem fM_now : (fM fv ho ser sa nv ea na co).lookup ("now" : Str) = some nv := by rfl
theorem fM_events : (fM fv ho ser sa nv ea na co).lookup ("events" : Str) = some (.ref ea) := by rfl
theorem fM_entered : (fM fv ho ser sa nv ea na co).lookup ("entered" : Str) = some (.ref na) := by rfl
theorem fM_collections : (fM fv ho ser sa nv ea na co).lookup ("collections" : Str) = some (.int co) := by rfl
theorem fM_put_now (v : V) : putF "now" v (fM fv ho ser sa nv ea na co) = fM fv ho ser sa v ea na co := by rfl
theorem fM_put_serial (n : Int) : putF "next_serial" (.int n) (fM fv ho ser sa nv ea na co) = fM fv ho n sa nv ea na co := by rfl
theorem fM_put_stack (a : Addr) : putF "stack" (.ref a) (fM fv ho ser sa nv ea na co) = fM fv ho ser a nv ea na co := by rfl
theorem fM_put_collections (n : Int) : putF "collections" (.int n) (fM fv ho ser sa nv ea na co) = fM fv ho ser sa nv ea na n := by rfl
theorem fM_len : (fM fv ho ser sa nv ea na co).length < 1000 := by show 8 < 1000; decide
theorem fM_no_step : (fM fv ho ser sa nv ea na co).lookup ("step" : Str) = none := by rfl
theorem fM_no_collect : (fM fv ho ser sa nv ea na co).lookup ("collect" : Str) = none := by rfl
theorem fM_no_has_room : (fM fv ho ser sa nv ea na co).lookup ("has_room" : Str) = none := by rfl
end
/-- where the machine keeps what it has -/
structure Pl where
  mo : Addr
  ho : Addr
  hd : Addr
  sa : Addr
  ea : Addr
  na : Addr
  room : Int
  fv : V
def Pl.ok (p : Pl) : Prop := p.mo ≠ p.ho ∧ p.mo ≠ p.hd ∧ p.mo ≠ p.sa ∧ p.mo ≠ p.ea ∧ p.mo ≠ p.na ∧ p.ho ≠ p.hd ∧ p.ho ≠ p.sa ∧ p.ho ≠ p.ea ∧ p.ho ≠ p.na ∧ p.hd ≠ p.sa ∧ p.hd ≠ p.ea ∧ p.hd ≠ p.na ∧ p.sa ≠ p.ea ∧ p.sa ≠ p.na ∧ p.ea ≠ p.na
/-- all but what the machine keeps stays -/
def KeepM (p : Pl) (H H' : Hp) : Prop := ∀ b u, b ≠ p.mo → b ≠ p.ho → b ≠ p.hd → b ≠ p.sa → b ≠ p.ea → b ≠ p.na → H b = some u → H' b = some u
theorem KeepM.refl {p : Pl} {H : Hp} : KeepM p H H := fun _ _ _ _ _ _ _ _ e => e
theorem KeepM.same {p : Pl} {H H' : Hp} (s : Same H H') : KeepM p H H' := fun b u _ _ _ _ _ _ e => s b u e
theorem KeepM.trans {p : Pl} {H1 H2 H3 : Hp} (h : KeepM p H1 H2) (k : KeepM p H2 H3) : KeepM p H1 H3 := fun b u n1 n2 n3 n4 n5 n6 e => k b u n1 n2 n3 n4 n5 n6 (h b u n1 n2 n3 n4 n5 n6 e)
theorem KeepM.upd {p : Pl} {H : Hp} {a : Addr} {o : HO} (h : a = p.mo ∨ a = p.ho ∨ a = p.hd ∨ a = p.sa ∨ a = p.ea ∨ a = p.na) : KeepM p H (upd H a o) := fun b u n1 n2 n3 n4 n5 n6 e => by
  rw [upd_ne (by rcases h with h | h | h | h | h | h <;> rw [h] <;> assumption)]
  exact e
/-- a dict that holds just these cells, their addresses from i on -/
def CsAt (H : Hp) : Nat → List Cl → List (Key × V) → Prop
  | _, [], kvs => kvs = []
  | i, c :: cs, kvs => ∃ v ks, kvs = (Sum.inl (i : Int), v) :: ks ∧ c.D.At F0 H v ∧ CsAt H (i + 1) cs ks
theorem CsAt.keep {H H' : Hp} (t : Fr F0 H H') : ∀ {cs : List Cl} {i : Nat} {kvs : List (Key × V)}, CsAt H i cs kvs → CsAt H' i cs kvs
  | [], _, _, h => h
  | c :: cs, _, _, ⟨v, ks, e, h, hs⟩ => ⟨v, ks, e, h.keep t, CsAt.keep t hs⟩
theorem CsAt.len {H : Hp} : ∀ {cs : List Cl} {i : Nat} {kvs : List (Key × V)}, CsAt H i cs kvs → kvs.length = cs.length
  | [], _, _, h => by cases h; rfl
  | c :: cs, _, _, ⟨v, ks, e, h, hs⟩ => by rw [e, List.length_cons, List.length_cons, CsAt.len hs]
theorem CsAt.app {H : Hp} {c : Cl} {v : V} (hv : c.D.At F0 H v) : ∀ {cs : List Cl} {i : Nat} {kvs : List (Key × V)}, CsAt H i cs kvs → CsAt H i (cs ++ [c]) (kvs ++ [(Sum.inl ((i + cs.length : Nat) : Int), v)])
  | [], _, _, h => by cases h; exact ⟨v, [], rfl, hv, rfl⟩
  | d :: cs, i, _, ⟨u, ks, e, h, hs⟩ => by
    subst e
    refine ⟨u, _, rfl, h, ?_⟩
    have := CsAt.app hv hs
    rw [show i + 1 + cs.length = i + (d :: cs).length by rw [List.length_cons]; omega] at this
    exact this
theorem CsAt.out {H : Hp} {a : Nat} : ∀ {cs : List Cl} {i : Nat} {kvs : List (Key × V)}, CsAt H i cs kvs → (a < i ∨ i + cs.length ≤ a) → valV kvs (Sum.inl (a : Int) : Key) = none
  | [], _, _, h, _ => by cases h; rfl
  | c :: cs, i, _, ⟨v, ks, e, h, hs⟩, n => by
    subst e
    rw [List.length_cons] at n
    exact (valV_neg (p := (Sum.inl (i : Int), v)) fun z => by have := Sum.inl.inj z; omega).trans (CsAt.out hs (by omega))
theorem CsAt.get {H : Hp} {a : Nat} {c : Cl} : ∀ {cs : List Cl} {i : Nat} {kvs : List (Key × V)}, CsAt H i cs kvs → cs[a]? = some c → ∃ v, valV kvs (Sum.inl ((i + a : Nat) : Int) : Key) = some v ∧ c.D.At F0 H v
  | [], _, _, _, m => by simp at m
  | d :: cs, i, _, ⟨v, ks, e, h, hs⟩, m => by
    subst e
    cases a with
    | zero =>
      cases m
      exact ⟨v, valV_pos (p := (Sum.inl (i : Int), v)) rfl, h⟩
    | succ a =>
      have m' : cs[a]? = some c := m
      obtain ⟨u, h1, h2⟩ := CsAt.get hs m'
      rw [show i + 1 + a = i + (a + 1) by omega] at h1
      exact ⟨u, (valV_neg (p := (Sum.inl (i : Int), v)) fun z => by have := Sum.inl.inj z; omega).trans h1, h2⟩
theorem putK_cons_pos {k : Key} {v u : V} {ks : List (Key × V)} (hn : valV ks k = none) : putK ((k, v) :: ks) k u = (k, u) :: ks := by
  unfold putK
  rw [if_pos (by simp)]
  rw [List.map_cons, if_pos rfl]
  congr 1
  refine (List.map_congr_left fun p hp => ?_).trans (List.map_id _)
  rw [if_neg]
  · rfl
  · intro e
    have : (ks.any fun kv => decide (kv.1 = k)) = true := List.any_eq_true.mpr ⟨p, hp, by rw [e]; exact decide_eq_true rfl⟩
    rw [valV_any, hn] at this
    cases this
theorem putK_cons_neg {j k : Key} {v u : V} {ks : List (Key × V)} (n : ¬ j = k) : putK ((j, v) :: ks) k u = (j, v) :: putK ks k u := by
  unfold putK
  have e : (((j, v) :: ks).any fun kv => decide (kv.1 = k)) = (ks.any fun kv => decide (kv.1 = k)) := by
    rw [List.any_cons, show decide (((j, v) : Key × V).1 = k) = false from decide_eq_false n, Bool.false_or]
  rw [e]
  split
  · rw [List.map_cons, if_neg (show ¬ ((j, v) : Key × V).1 = k from n)]
  · rfl
theorem CsAt.set {H : Hp} {a : Nat} {c d : Cl} {u : V} (hu : c.D.At F0 H u) : ∀ {cs : List Cl} {i : Nat} {kvs : List (Key × V)}, CsAt H i cs kvs → cs[a]? = some d → CsAt H i (cs.set a c) (putK kvs (Sum.inl ((i + a : Nat) : Int) : Key) u)
  | [], _, _, _, m => by simp at m
  | r :: cs, i, _, ⟨v, ks, e, h, hs⟩, m => by
    subst e
    cases a with
    | zero =>
      rw [show i + 0 = i from rfl, putK_cons_pos (CsAt.out hs (.inl (by omega)))]
      exact ⟨u, ks, rfl, hu, hs⟩
    | succ a =>
      have m' : cs[a]? = some d := m
      have na : ¬ (Sum.inl (i : Int) : Key) = Sum.inl ((i + (a + 1) : Nat) : Int) := fun q => by have := Sum.inl.inj q; omega
      rw [putK_cons_neg na, show i + (a + 1) = i + 1 + a by omega]
      exact ⟨v, _, rfl, h, CsAt.set hu hs m'⟩
/-! ### parts of a machine -/
def oAt (C : Addr) (H : Hp) (p : Pl) (ser : Int) (nv : V) (co : Int) : Prop := ∃ dx, H p.mo = some (.ins C dx (fM p.fv p.ho ser p.sa nv p.ea p.na co))
def hAt (C : Addr) (H : Hp) (p : Pl) (cs : List Cl) : Prop := (∃ dx, H p.ho = some (.ins C dx (fldH p.room (used cs) p.hd (cs.length : Int)))) ∧ ∃ kvs, H p.hd = some (.dK kvs) ∧ CsAt H 0 cs kvs
def rAt (H : Hp) (a : Addr) (l : List Dd) : Prop := ∃ xs, H a = some (.lst xs) ∧ Dd.Ats F0 H l xs
theorem hAt.keep {C : Addr} {H H' : Hp} {p : Pl} {cs : List Cl} (h : hAt C H p cs) (f : Fr F0 H H') (e1 : H' p.ho = H p.ho) (e2 : H' p.hd = H p.hd) : hAt C H' p cs := by
  obtain ⟨⟨dx, h1⟩, kvs, h2, h3⟩ := h
  exact ⟨⟨dx, e1.trans h1⟩, kvs, e2.trans h2, h3.keep f⟩
theorem hAt.same {C : Addr} {H H' : Hp} {p : Pl} {cs : List Cl} (h : hAt C H p cs) (s : Same H H') : hAt C H' p cs := by
  obtain ⟨⟨dx, h1⟩, kvs, h2, h3⟩ := h
  exact ⟨⟨dx, s _ _ h1⟩, kvs, s _ _ h2, h3.keep (fr_same s)⟩
theorem rAt.keep {H H' : Hp} {a : Addr} {l : List Dd} (h : rAt H a l) (f : Fr F0 H H') (e : H' a = H a) : rAt H' a l := by
  obtain ⟨xs, h1, h2⟩ := h
  exact ⟨xs, e.trans h1, h2.keep f⟩
theorem rAt.same {H H' : Hp} {a : Addr} {l : List Dd} (h : rAt H a l) (s : Same H H') : rAt H' a l := by
  obtain ⟨xs, h1, h2⟩ := h
  exact ⟨xs, s _ _ h1, h2.keep (fr_same s)⟩
/-- the machine stands there -/
structure MkAt (CM CH : Addr) (H : Hp) (p : Pl) (m : Mc) (nv : V) (co : Int) : Prop where
  ok : p.ok
  o : oAt CM H p m.ser nv co
  h : hAt CH H p m.cs
  s : rAt H p.sa (m.stk.map Fm.D)
  e : rAt H p.ea (m.evs.map Ev.D)
  n : rAt H p.na (m.ent.map Dd.int)
theorem fr_upd {H : Hp} {a : Addr} {u o : HO} (e : H a = some u) (n : ∀ xs, u ≠ .tup xs) : Fr F0 H (upd H a o) :=
  ⟨fun b xs f => by rw [upd_ne (fun z => by rw [z, e] at f; exact n xs (Option.some.inj f))]; exact f, fun b xs z _ => z.elim⟩
section
variable {CM CH : Addr} {H H' : Hp} {p : Pl} {m : Mc} {nv : V} {co : Int}
theorem MkAt.same (M : MkAt CM CH H p m nv co) (s : Same H H') : MkAt CM CH H' p m nv co := by
  obtain ⟨h1, ⟨dx, h2⟩, h3, h4, h5, h6⟩ := M
  exact ⟨h1, ⟨dx, s _ _ h2⟩, h3.same s, h4.same s, h5.same s, h6.same s⟩
theorem MkAt.fr (M : MkAt CM CH H p m nv co) (k : KeepM p H H') : Fr F0 H H' := by
  obtain ⟨h1, ⟨dx, h2⟩, ⟨⟨dy, h3⟩, kvs, h4, _⟩, ⟨xs, h5, _⟩, ⟨ys, h6, _⟩, ⟨zs, h7, _⟩⟩ := M
  refine ⟨fun a us e => k _ _ ?_ ?_ ?_ ?_ ?_ ?_ e, fun a us z _ => z.elim⟩
  · intro z; rw [z, h2] at e; cases e
  · intro z; rw [z, h3] at e; cases e
  · intro z; rw [z, h4] at e; cases e
  · intro z; rw [z, h5] at e; cases e
  · intro z; rw [z, h6] at e; cases e
  · intro z; rw [z, h7] at e; cases e
/-- a frame is put on the stack -/
theorem MkAt.push (M : MkAt CM CH H p m nv co) {xs : List V} (hx : H p.sa = some (.lst xs)) {f : Fm} {v : V} (hv : f.D.At F0 H v) : MkAt CM CH (upd H p.sa (.lst (xs ++ [v]))) p (m.push f) nv co ∧ KeepM p H (upd H p.sa (.lst (xs ++ [v]))) ∧ Fr F0 H (upd H p.sa (.lst (xs ++ [v]))) := by
  have fr := fr_upd (o := .lst (xs ++ [v])) hx fun _ z => by cases z
  obtain ⟨ok, ⟨dx, h2⟩, h3, ⟨xs', h5, h6⟩, h7, h8⟩ := M
  obtain ⟨n1, n2, n3, n4, n5, n6, n7, n8, n9, n10, n11, n12, n13, n14, n15⟩ := id ok
  rw [hx] at h5
  cases h5
  refine ⟨⟨ok, ⟨dx, by rw [upd_ne n3]; exact h2⟩, h3.keep fr (upd_ne n7) (upd_ne n10), ⟨_, upd_same, ?_⟩, h7.keep fr (upd_ne n13.symm), h8.keep fr (upd_ne n14.symm)⟩, KeepM.upd (.inr (.inr (.inr (.inl rfl)))), fr⟩
  show Dd.Ats F0 _ ((m.stk ++ [f]).map Fm.D) _
  rw [List.map_append]
  exact ats_app (h6.keep fr) (ats_one (hv.keep fr))
/-- the frame on top is taken off -/
theorem MkAt.pop {stk : List Fm} {f : Fm} (M : MkAt CM CH H p m nv co) (e : m.stk = stk ++ [f]) : ∃ ys y, H p.sa = some (.lst (ys ++ [y])) ∧ f.D.At F0 H y ∧ MkAt CM CH (upd H p.sa (.lst ys)) p { m with stk := stk } nv co ∧ KeepM p H (upd H p.sa (.lst ys)) ∧ Fr F0 H (upd H p.sa (.lst ys)) := by
  obtain ⟨ok, ⟨dx, h2⟩, h3, ⟨xs, h5, h6⟩, h7, h8⟩ := M
  obtain ⟨n1, n2, n3, n4, n5, n6, n7, n8, n9, n10, n11, n12, n13, n14, n15⟩ := id ok
  rw [e, List.map_append] at h6
  obtain ⟨ys, y, rfl, h9, h10⟩ := ats_snoc h6
  have fr := fr_upd (o := .lst ys) h5 fun _ z => by cases z
  exact ⟨ys, y, h5, h10, ⟨ok, ⟨dx, by rw [upd_ne n3]; exact h2⟩, h3.keep fr (upd_ne n7) (upd_ne n10), ⟨_, upd_same, h9.keep fr⟩, h7.keep fr (upd_ne n13.symm), h8.keep fr (upd_ne n14.symm)⟩, KeepM.upd (.inr (.inr (.inr (.inl rfl)))), fr⟩
/-- an event is told -/
theorem MkAt.tell (M : MkAt CM CH H p m nv co) {xs : List V} (hx : H p.ea = some (.lst xs)) {f : Ev} {v : V} (hv : f.D.At F0 H v) : MkAt CM CH (upd H p.ea (.lst (xs ++ [v]))) p (m.ev f) nv co ∧ KeepM p H (upd H p.ea (.lst (xs ++ [v]))) ∧ Fr F0 H (upd H p.ea (.lst (xs ++ [v]))) := by
  have fr := fr_upd (o := .lst (xs ++ [v])) hx fun _ z => by cases z
  obtain ⟨ok, ⟨dx, h2⟩, h3, h4, ⟨xs', h5, h6⟩, h8⟩ := M
  obtain ⟨n1, n2, n3, n4, n5, n6, n7, n8, n9, n10, n11, n12, n13, n14, n15⟩ := id ok
  rw [hx] at h5
  cases h5
  refine ⟨⟨ok, ⟨dx, by rw [upd_ne n4]; exact h2⟩, h3.keep fr (upd_ne n8) (upd_ne n11), h4.keep fr (upd_ne n13), ⟨_, upd_same, ?_⟩, h8.keep fr (upd_ne n15.symm)⟩, KeepM.upd (.inr (.inr (.inr (.inr (.inl rfl))))), fr⟩
  show Dd.Ats F0 _ ((m.evs ++ [f]).map Ev.D) _
  rw [List.map_append]
  exact ats_app (h6.keep fr) (ats_one (hv.keep fr))
/-- a serial is noted -/
theorem MkAt.ents (M : MkAt CM CH H p m nv co) {xs : List V} (hx : H p.na = some (.lst xs)) {i : Int} : MkAt CM CH (upd H p.na (.lst (xs ++ [.int i]))) p { m with ent := m.ent ++ [i] } nv co ∧ KeepM p H (upd H p.na (.lst (xs ++ [.int i]))) ∧ Fr F0 H (upd H p.na (.lst (xs ++ [.int i]))) := by
  have fr := fr_upd (o := .lst (xs ++ [.int i])) hx fun _ z => by cases z
  obtain ⟨ok, ⟨dx, h2⟩, h3, h4, h7, ⟨xs', h5, h6⟩⟩ := M
  obtain ⟨n1, n2, n3, n4, n5, n6, n7, n8, n9, n10, n11, n12, n13, n14, n15⟩ := id ok
  rw [hx] at h5
  cases h5
  refine ⟨⟨ok, ⟨dx, by rw [upd_ne n5]; exact h2⟩, h3.keep fr (upd_ne n9) (upd_ne n12), h4.keep fr (upd_ne n14), h7.keep fr (upd_ne n15), ⟨_, upd_same, ?_⟩⟩, KeepM.upd (.inr (.inr (.inr (.inr (.inr rfl))))), fr⟩
  show Dd.Ats F0 _ ((m.ent ++ [i]).map Dd.int) _
  rw [List.map_append]
  exact ats_app (h6.keep fr) (ats_one rfl)
/-- its own fields are put -/
theorem MkAt.own (M : MkAt CM CH H p m nv co) {dx : Addr} {fs : List (Str × V)} (ho : H p.mo = some (.ins CM dx fs)) (ser : Int) (nv' : V) (co' : Int) : MkAt CM CH (upd H p.mo (.ins CM dx (fM p.fv p.ho ser p.sa nv' p.ea p.na co'))) p { m with ser := ser } nv' co' ∧ KeepM p H (upd H p.mo (.ins CM dx (fM p.fv p.ho ser p.sa nv' p.ea p.na co'))) ∧ Fr F0 H (upd H p.mo (.ins CM dx (fM p.fv p.ho ser p.sa nv' p.ea p.na co'))) := by
  have fr := fr_upd (o := .ins CM dx (fM p.fv p.ho ser p.sa nv' p.ea p.na co')) ho fun _ z => by cases z
  obtain ⟨ok, ⟨dx', h2⟩, h3, h4, h7, h8⟩ := M
  obtain ⟨n1, n2, n3, n4, n5, n6, n7, n8, n9, n10, n11, n12, n13, n14, n15⟩ := id ok
  exact ⟨⟨ok, ⟨dx, upd_same⟩, h3.keep fr (upd_ne n1.symm) (upd_ne n2.symm), h4.keep fr (upd_ne n3.symm), h7.keep fr (upd_ne n4.symm), h8.keep fr (upd_ne n5.symm)⟩, KeepM.upd (.inl rfl), fr⟩
/-- other cells -/
theorem MkAt.cells (M : MkAt CM CH H p m nv co) {cs : List Cl} (h : hAt CH H' p cs) (k : ∀ b u, b ≠ p.ho → b ≠ p.hd → H b = some u → H' b = some u) : MkAt CM CH H' p { m with cs := cs } nv co ∧ KeepM p H H' ∧ Fr F0 H H' := by
  have km : KeepM p H H' := fun b u _ n2 n3 _ _ _ e => k b u n2 n3 e
  have fr := M.fr km
  obtain ⟨ok, ⟨dx, h2⟩, _, ⟨xs, h4, h5⟩, ⟨ys, h6, h7⟩, ⟨zs, h8, h9⟩⟩ := M
  obtain ⟨n1, n2, n3, n4, n5, n6, n7, n8, n9, n10, n11, n12, n13, n14, n15⟩ := id ok
  exact ⟨⟨ok, ⟨dx, k _ _ n1 n2 h2⟩, h, ⟨xs, k _ _ n7.symm n10.symm h4, h5.keep fr⟩, ⟨ys, k _ _ n8.symm n11.symm h6, h7.keep fr⟩, ⟨zs, k _ _ n9.symm n12.symm h8, h9.keep fr⟩⟩, km, fr⟩
end
/-! ### the class Heap -/
structure TxtS (mg : Str → Option Value) : Prop where
  zlen : mg "len" = none
  zmax : mg "max" = none
  gLEAST_SIZE_OF_DELAYED : ∃ u, mg "LEAST_SIZE_OF_DELAYED" = some u ∧ RelV (.int 2) u
structure TxtH (K : PySem.W.Frag) (C : Addr) : Prop where
  cl : Cls K C
  nR : NoAttr K C "room"
  nU : NoAttr K C "used"
  nC : NoAttr K C "cells"
  nN : NoAttr K C "next_address"
theorem max_int (n : Nat) : (if (1 : Int) + (n : Int) > 2 then (1 : Int) + (n : Int) else 2) = ((max 2 (1 + n) : Nat) : Int) := by split <;> omega
/-- what has a size: its word, and how long its row of words is -/
def SizedAt (K : PySem.W.Frag) (H : Hp) (v : V) (z : Str) (n : Nat) : Prop := ∃ t row, v = .ref t ∧ H t = some (.tup row) ∧ atI row 0 = some (.str z) ∧ (z = "later" ∨ z = "con" ∨ z = "part" → ∃ u xs, atI row 2 = some (.ref u) ∧ SqT K H u xs ∧ xs.length = n)
def Cl.wlen : Cl → Nat
  | .lat _ ws _ => ws.length
  | .part _ ws => ws.length
  | .con _ ws => ws.length
  | .on _ => 0
  | .hole => 0
theorem Cl.size_eq (c : Cl) : sizeW c.word c.wlen = c.size := by
  cases c with
  | lat b ws s => exact sizeW_later _
  | part i ws => exact sizeW_cp false _
  | con t ws => exact sizeW_cp true _
  | on w => show sizeW "on" 0 = 2; decide +kernel
  | hole => show sizeW "hole" 0 = 2; decide +kernel
theorem sized_cell {K : PySem.W.Frag} {H : Hp} {c : Cl} {v : V} (h : c.D.At F0 H v) : SizedAt K H v c.word c.wlen := by
  have n1 : ¬ (("hole" : Str) = "later" ∨ ("hole" : Str) = "con" ∨ ("hole" : Str) = "part") := by decide +kernel
  have n2 : ¬ (("on" : Str) = "later" ∨ ("on" : Str) = "con" ∨ ("on" : Str) = "part") := by decide +kernel
  cases c with
  | hole =>
    obtain ⟨a, xs, rfl, ha, x, ys, rfl, ⟨rfl, _⟩, hy⟩ := h
    exact ⟨a, _, rfl, ha, at0 _ _, fun z => absurd z n1⟩
  | on i =>
    obtain ⟨a, xs, rfl, ha, x, ys, rfl, ⟨rfl, _⟩, hy⟩ := h
    exact ⟨a, _, rfl, ha, at0 _ _, fun z => absurd z n2⟩
  | lat b ws s =>
    obtain ⟨a, xs, rfl, ha, x, ys, rfl, ⟨rfl, _⟩, y, zs, rfl, hy, z, us, rfl, ⟨u, ts, rfl, hu, hts⟩, hz⟩ := h
    exact ⟨a, _, rfl, ha, at0 _ _, fun _ => ⟨u, ts, at2 _ _ _ _, SqT.of hu, by rw [ats_len hts, List.length_map]; rfl⟩⟩
  | part i ws =>
    obtain ⟨a, xs, rfl, ha, x, ys, rfl, ⟨rfl, _⟩, y, zs, rfl, hy, z, us, rfl, ⟨u, ts, rfl, hu, hts⟩, hz⟩ := h
    exact ⟨a, _, rfl, ha, at0 _ _, fun _ => ⟨u, ts, at2 _ _ _ _, SqT.of hu, by rw [ats_len hts, List.length_map]; rfl⟩⟩
  | con t ws =>
    obtain ⟨a, xs, rfl, ha, x, ys, rfl, ⟨rfl, _⟩, y, zs, rfl, hy, z, us, rfl, ⟨u, ts, rfl, hu, hts⟩, hz⟩ := h
    exact ⟨a, _, rfl, ha, at0 _ _, fun _ => ⟨u, ts, at2 _ _ _ _, SqT.of hu, by rw [ats_len hts, List.length_map]; rfl⟩⟩
section
variable {P : Program} {w : World} {K : PySem.W.Frag} {mg : Str → Option Value} {base : Heap}
abbrev sSize : Stmt := topS 13
theorem scSize : FnScope ["cell", "word"] ["cell"] (defScope sSize) := ⟨rfl, rfl, rfl, by decide +kernel, rfl, by decide +kernel, by decide +kernel⟩
def spSize (K : PySem.W.Frag) : Sp := fun vs H Q _ => ∃ (v : V) (z : Str) (n : Nat), vs = [v] ∧ SizedAt K H v z n ∧ ∀ H', Same H H' → Q (.int (sizeW z n : Int)) H'
theorem c_size {f : Addr} {fd : FuncData} (T : TxtS mg) (F : Fun K "size_of" "size_of" sSize f fd) (b : Binds K fd ["cell"] []) (hm : mg "size_of" = some (.ref f)) : C8.Cal P w K mg base 1 "size_of" (spSize K) [] := by
  refine cal_of F hm b scSize (fun vs H Q E h => ?_) (fun cdv A outer s H vs Q E hr h => ?_)
  · obtain ⟨v, z, n, rfl, _⟩ := h
    rfl
  obtain ⟨v, z, n, rfl, ⟨t, row, rfl, ht, h0, h2⟩, q⟩ := h
  refine ⟨_, (pss_cons (ps_set (i := 1) scSize.nd rfl (Or.inl rfl) (pe_ix ix_tup (pv 0) pe_int (fun _ _ => rfl)))
    (pss_cons (ps_if (pt_cmpR op_in_seq (pv 1) (pe_tup (pa_cons pe_str (pa_cons pe_str pa_nil))) rfl)
      (pss_one (ps_ret (pe_op op_add pe_int (pe_callB call_len_seq rfl T.zlen PySem.boot_len (pa_cons (pe_ix ix_tup (pv 0) pe_int (fun _ _ => rfl)) pa_nil)))))
      pss_nil)
    (pss_cons (ps_if (pt_cmpR op_eq (pv 1) pe_str (nomark _))
      (pss_one (ps_ret (pe_callB (call_max2 rfl) rfl T.zmax boot_max (pa_cons (C8.pe_gc rfl T.gLEAST_SIZE_OF_DELAYED) (pa_cons (pe_op op_add pe_int (pe_callB call_len_seq rfl T.zlen PySem.boot_len (pa_cons (pe_ix ix_tup (pv 0) pe_int (fun _ _ => rfl)) pa_nil))) pa_nil)))))
      pss_nil)
    (pss_one (ps_ret (C8.pe_gc rfl T.gLEAST_SIZE_OF_DELAYED)))))), ?_⟩
  refine ⟨_, rfl, t, _, 0, _, rfl, rfl, SqT.of ht, h0, ?_⟩
  refine ⟨_, rfl, by show 2 ≤ sizeLine; decide, fun u hu => ?_⟩
  have s1 := same_new hu (.tup [.str "con", .str "part"])
  refine ⟨u, _, rfl, .inr (SqT.of upd_same), rfl, rfl, ?_⟩
  have ht1 := s1 _ _ ht
  have q1 := q _ s1
  have sq1 : ∀ {u' xs}, SqT K H u' xs → SqT K (upd H u (.tup [.str "con", .str "part"])) u' xs := fun h => by
    rcases h with (h | ⟨o, h⟩) | h
    · exact .inl (.inl (s1 _ _ h))
    · exact .inl (.inr ⟨o, s1 _ _ h⟩)
    · exact .inr h
  generalize upd H u (.tup [.str "con", .str "part"]) = H1 at s1 ht1 q1 sq1 ⊢
  have eI : (if false = true then !inV (V.str z) [V.str "con", V.str "part"] else inV (V.str z) [V.str "con", V.str "part"]) = decide (z = "con" ∨ z = "part") := by
    show inV (V.str z) ([("con" : Str), "part"].map V.str) = _
    rw [inV_strs]
    exact decide_eq_decide.mpr (by simp)
  rw [eI]
  unfold sizeW at q1
  refine ⟨_, rfl, ?_⟩
  by_cases h1 : z = "con" ∨ z = "part"
  · rw [decide_eq_true h1]
    rw [if_pos h1] at q1
    refine iteT ?_
    obtain ⟨u2, xs, g1, g2, rfl⟩ := h2 (.inr h1)
    refine ⟨_, rfl, t, _, 2, _, rfl, rfl, SqT.of ht1, g1, u2, xs, rfl, .inr (sq1 g2), _, _, rfl, rfl, ?_⟩
    rw [show ((1 + xs.length : Nat) : Int) = 1 + ((xs.length : Nat) : Int) by omega] at q1
    exact q1
  · rw [decide_eq_false h1]
    rw [if_neg h1] at q1
    refine iteF ?_
    refine ⟨_, rfl, rfl, _, rfl, ?_⟩
    show if decide (V.str z = V.str "later") = true then _ else _
    by_cases h3 : z = "later"
    · rw [if_pos h3] at q1
      obtain ⟨u2, xs, g1, g2, rfl⟩ := h2 (.inl h3)
      rw [show decide (V.str z = V.str "later") = true by rw [h3]; exact wtt]
      refine iteT ?_
      refine ⟨_, rfl, t, _, 2, _, rfl, rfl, SqT.of ht1, g1, u2, xs, rfl, .inr (sq1 g2), _, _, rfl, rfl, _, _, rfl, ?_⟩
      rw [← max_int] at q1
      exact q1
    · rw [if_neg h3] at q1
      rw [wne h3]
      exact iteF q1
variable {C : Addr}
def Keep2 (p : Pl) (H H' : Hp) : Prop := ∀ b u, b ≠ p.ho → b ≠ p.hd → H b = some u → H' b = some u
abbrev sMake : Stmt := inClass (topS 14) 1
theorem scMake : FnScope ["self", "cell", "address"] ["self", "cell"] (defScope sMake) := ⟨rfl, rfl, rfl, by decide +kernel, rfl, by decide +kernel, by decide +kernel⟩
def spMake (C : Addr) : Sp := fun vs H Q _ => ∃ (p : Pl) (cs : List Cl) (v : V) (c : Cl), vs = [.ref p.ho, v] ∧ hAt C H p cs ∧ p.ho ≠ p.hd ∧ c.D.At F0 H v ∧ cs.length ≤ 95000 ∧ ∀ H', Keep2 p H H' → hAt C H' p (cs ++ [c]) → Q (.int (cs.length : Int)) H'
theorem c_make {f : Addr} {fd : FuncData} (T : TxtH K C) (csize_of : C8.Cal P w K mg base 1 "size_of" (spSize K) []) (me : Meth K C "make" f) (F : Fun K "make" "Heap.make" sMake f fd) (b : Binds K fd ["self", "cell"] []) : C8.Met P w K mg base 2 C "make" (spMake C) [] := by
  refine met_of T.cl me F b scMake (fun vs H Q E h => ?_) (fun cdv A outer s H vs Q E hr h => ?_)
  · obtain ⟨p, cs, v, c, rfl, _⟩ := h
    rfl
  obtain ⟨p, cs, v, c, rfl, ⟨⟨dx, ho⟩, kvs, hd, hkv⟩, nod, hat, hl, q⟩ := h
  have hu := hu_of hr
  refine ⟨_, (pss_cons (ps_set (i := 2) scMake.nd rfl (Or.inl rfl) (pe_fld (pv 0) rfl))
    (pss_cons (ps_fldaug (pv 0) pe_int ip_add)
    (pss_cons (ps_dput hu (pe_fld (pv 0) rfl) (pv 2) (pv 1) rfl)
    (pss_cons (ps_fldaug (pv 0) (C8.pe_c csize_of hr (by decide) rfl (pa_cons (pv 1) pa_nil)) ip_add)
    (pss_one (ps_ret (pv 2))))))), ?_⟩
  refine ⟨_, rfl, p.ho, C, dx, _, .int (cs.length : Int), rfl, ho, T.cl, T.nN, fldH_next _ _ _ _, ?_⟩
  refine ⟨_, rfl, p.ho, C, dx, _, .int (cs.length : Int), rfl, ho, T.cl, T.nN, fldH_next _ _ _ _, (cs.length : Int), 1, rfl, rfl, dx, _, ho, fldH_len .., ?_⟩
  rw [fldH_put_next]
  have ho1 : upd H p.ho (.ins C dx (fldH p.room (used cs) p.hd ((cs.length : Int) + 1))) p.ho = some (.ins C dx (fldH p.room (used cs) p.hd ((cs.length : Int) + 1))) := upd_same
  have hd1 : upd H p.ho (.ins C dx (fldH p.room (used cs) p.hd ((cs.length : Int) + 1))) p.hd = some (.dK kvs) := by rw [upd_ne nod.symm]; exact hd
  have t1 : Fr F0 H (upd H p.ho (.ins C dx (fldH p.room (used cs) p.hd ((cs.length : Int) + 1)))) := fr_upd ho fun _ z => by cases z
  have k1 : Keep2 p H (upd H p.ho (.ins C dx (fldH p.room (used cs) p.hd ((cs.length : Int) + 1)))) := fun b u n1 n2 e => by rw [upd_ne n1]; exact e
  generalize upd H p.ho (.ins C dx (fldH p.room (used cs) p.hd ((cs.length : Int) + 1))) = H1 at ho1 hd1 t1 k1 ⊢
  have hkl := hkv.len
  refine ⟨_, rfl, _, rfl, p.ho, C, dx, _, .ref p.hd, rfl, ho1, T.cl, T.nC, fldH_cells _ _ _ _, _, rfl, p.hd, _, rfl, DPut.k (k := Sum.inl (cs.length : Int)) hd1 (by have := szl (n := 95001) (by decide); show kvs.length < sizeLine; omega), ?_⟩
  have hput : putK kvs (Sum.inl (cs.length : Int)) v = kvs ++ [(Sum.inl (cs.length : Int), v)] := by
    refine putK_new _ ?_
    exact hkv.out (.inr (by omega))
  rw [hput]
  have hd2 : upd H1 p.hd (.dK (kvs ++ [(Sum.inl (cs.length : Int), v)])) p.hd = some (.dK (kvs ++ [(Sum.inl (cs.length : Int), v)])) := upd_same
  have ho2 : upd H1 p.hd (.dK (kvs ++ [(Sum.inl (cs.length : Int), v)])) p.ho = some (.ins C dx (fldH p.room (used cs) p.hd ((cs.length : Int) + 1))) := by rw [upd_ne nod]; exact ho1
  have t2 : Fr F0 H (upd H1 p.hd (.dK (kvs ++ [(Sum.inl (cs.length : Int), v)]))) := t1.trans (fr_upd hd1 fun _ z => by cases z)
  have k2 : Keep2 p H (upd H1 p.hd (.dK (kvs ++ [(Sum.inl (cs.length : Int), v)]))) := fun b u n1 n2 e => by rw [upd_ne n2]; exact k1 _ _ n1 n2 e
  generalize upd H1 p.hd (.dK (kvs ++ [(Sum.inl (cs.length : Int), v)])) = H2 at hd2 ho2 t2 k2 ⊢
  refine ⟨_, rfl, p.ho, C, dx, _, .int (used cs), rfl, ho2, T.cl, T.nU, fldH_used _ _ _ _, _, rfl, v, _, _, rfl, sized_cell (c := c) (hat.keep t2), fun H3 s3 => ?_⟩
  have ho3 := s3 _ _ ho2
  refine ⟨_, _, rfl, rfl, dx, _, ho3, fldH_len .., ?_⟩
  rw [fldH_put_used, c.size_eq]
  have t3 := t2.trans (fr_same (B := F0) s3)
  have t4 : Fr F0 H3 (upd H3 p.ho (.ins C dx (fldH p.room (used cs + (c.size : Int)) p.hd ((cs.length : Int) + 1)))) := fr_upd ho3 fun _ z => by cases z
  have t34 := t3.trans t4
  refine ⟨_, rfl, q _ (fun b u n1 n2 e => by rw [upd_ne n1]; exact s3 _ _ (k2 _ _ n1 n2 e)) ⟨⟨dx, ?_⟩, ⟨kvs ++ [(Sum.inl (cs.length : Int), v)], by rw [upd_ne nod.symm]; exact s3 _ _ hd2, ?_⟩⟩⟩
  · rw [upd_same, used_app, List.length_append]
    show some (HO.ins C dx (fldH p.room (used cs + (c.size : Int)) p.hd ((cs.length : Int) + 1))) = some (HO.ins C dx (fldH p.room (used cs + ((c.size : Int) + 0)) p.hd ((cs.length + 1 : Nat) : Int)))
    rw [Int.add_zero]
    rfl
  · have := (hkv.keep t34).app (hat.keep t34)
    rw [Nat.zero_add] at this
    exact this
abbrev sCell : Stmt := inClass (topS 14) 2
theorem scCell : FnScope ["self", "address"] ["self", "address"] (defScope sCell) := ⟨rfl, rfl, rfl, by decide +kernel, rfl, by decide +kernel, by decide +kernel⟩
def spCell (C : Addr) : Sp := fun vs H Q _ => ∃ (p : Pl) (cs : List Cl) (a : Nat) (c : Cl), vs = [.ref p.ho, .int (a : Int)] ∧ hAt C H p cs ∧ cs[a]? = some c ∧ ∀ v, c.D.At F0 H v → Q v H
theorem c_cell {f : Addr} {fd : FuncData} (T : TxtH K C) (me : Meth K C "cell" f) (F : Fun K "cell" "Heap.cell" sCell f fd) (b : Binds K fd ["self", "address"] []) : C8.Met P w K mg base 1 C "cell" (spCell C) [] := by
  refine met_of T.cl me F b scCell (fun vs H Q E h => ?_) (fun cdv A outer s H vs Q E hr h => ?_)
  · obtain ⟨p, cs, a, c, rfl, _⟩ := h
    rfl
  obtain ⟨p, cs, a, c, rfl, ⟨⟨dx, ho⟩, kvs, hd, hkv⟩, hm, q⟩ := h
  have hu := hu_of hr
  refine ⟨_, (pss_one (ps_ret (pe_dget hu (pe_fld (pv 0) rfl) (pv 1) (fun _ _ => rfl)))), ?_⟩
  obtain ⟨v, hv, hat⟩ := hkv.get hm
  rw [Nat.zero_add] at hv
  exact ⟨_, rfl, p.ho, C, dx, _, .ref p.hd, rfl, ho, T.cl, T.nC, fldH_cells _ _ _ _, _, rfl, p.hd, v, rfl, hv ▸ DGet.k (k := Sum.inl (a : Int)) hd, q v hat⟩
abbrev sPut : Stmt := inClass (topS 14) 3
theorem scPut : FnScope ["self", "address", "cell"] ["self", "address", "cell"] (defScope sPut) := ⟨rfl, rfl, rfl, by decide +kernel, rfl, by decide +kernel, by decide +kernel⟩
def spPut (C : Addr) : Sp := fun vs H Q _ => ∃ (p : Pl) (cs : List Cl) (a : Nat) (v : V) (c e : Cl), vs = [.ref p.ho, .int (a : Int), v] ∧ hAt C H p cs ∧ p.ho ≠ p.hd ∧ cs[a]? = some e ∧ c.D.At F0 H v ∧ cs.length ≤ 95000 ∧ ∀ H', Keep2 p H H' → hAt C H' p (cs.set a c) → Q .non H'
theorem c_put {f : Addr} {fd : FuncData} (T : TxtH K C) (csize_of : C8.Cal P w K mg base 1 "size_of" (spSize K) []) (me : Meth K C "put" f) (F : Fun K "put" "Heap.put" sPut f fd) (b : Binds K fd ["self", "address", "cell"] []) : C8.Met P w K mg base 2 C "put" (spPut C) [] := by
  refine met_of T.cl me F b scPut (fun vs H Q E h => ?_) (fun cdv A outer s H vs Q E hr h => ?_)
  · obtain ⟨p, cs, a, v, c, e, rfl, _⟩ := h
    rfl
  obtain ⟨p, cs, a, v, c, e, rfl, ⟨⟨dx, ho⟩, kvs, hd, hkv⟩, nod, hi, hat, hl, q⟩ := h
  have hu := hu_of hr
  refine ⟨_, (pss_cons (ps_fldaug (pv 0) (pe_op op_sub (C8.pe_c csize_of hr (by decide) rfl (pa_cons (pv 2) pa_nil)) (C8.pe_c csize_of hr (by decide) rfl (pa_cons (pe_dget hu (pe_fld (pv 0) rfl) (pv 1) (fun _ _ => rfl)) pa_nil))) ip_add)
    (pss_one (ps_dput hu (pe_fld (pv 0) rfl) (pv 1) (pv 2) rfl))), ?_⟩
  obtain ⟨v', hv', hat'⟩ := hkv.get hi
  rw [Nat.zero_add] at hv'
  refine ⟨_, rfl, p.ho, C, dx, _, .int (used cs), rfl, ho, T.cl, T.nU, fldH_used _ _ _ _, _, rfl, v, _, _, rfl, sized_cell (c := c) hat, fun H1 s1 => ?_⟩
  have ho1 := s1 _ _ ho
  have hd1 := s1 _ _ hd
  refine ⟨_, rfl, p.ho, C, dx, _, .ref p.hd, rfl, ho1, T.cl, T.nC, fldH_cells _ _ _ _, _, rfl, p.hd, v', rfl, hv' ▸ DGet.k (k := Sum.inl (a : Int)) hd1, v', _, _, rfl, sized_cell (c := e) (hat'.keep (fr_same s1)), fun H2 s2 => ?_⟩
  have ho2 := s2 _ _ ho1
  have hd2 := s2 _ _ hd1
  have s02 := sameT s1 s2
  refine ⟨_, _, rfl, rfl, _, _, rfl, rfl, dx, _, ho2, fldH_len .., ?_⟩
  rw [fldH_put_used, c.size_eq, e.size_eq]
  have t3 : Fr F0 H2 (upd H2 p.ho (.ins C dx (fldH p.room (used cs + ((c.size : Int) - (e.size : Int))) p.hd (cs.length : Int)))) := fr_upd ho2 fun _ z => by cases z
  have ho3 : upd H2 p.ho (.ins C dx (fldH p.room (used cs + ((c.size : Int) - (e.size : Int))) p.hd (cs.length : Int))) p.ho = some (.ins C dx (fldH p.room (used cs + ((c.size : Int) - (e.size : Int))) p.hd (cs.length : Int))) := upd_same
  have hd3 : upd H2 p.ho (.ins C dx (fldH p.room (used cs + ((c.size : Int) - (e.size : Int))) p.hd (cs.length : Int))) p.hd = some (.dK kvs) := by rw [upd_ne nod.symm]; exact hd2
  have k3 : Keep2 p H (upd H2 p.ho (.ins C dx (fldH p.room (used cs + ((c.size : Int) - (e.size : Int))) p.hd (cs.length : Int)))) := fun b u n1 n2 e => by rw [upd_ne n1]; exact s02 _ _ e
  have t03 := (fr_same (B := F0) s02).trans t3
  generalize upd H2 p.ho (.ins C dx (fldH p.room (used cs + ((c.size : Int) - (e.size : Int))) p.hd (cs.length : Int))) = H3 at t3 ho3 hd3 k3 t03 ⊢
  refine ⟨_, rfl, _, rfl, p.ho, C, dx, _, .ref p.hd, rfl, ho3, T.cl, T.nC, fldH_cells _ _ _ _, _, rfl, p.hd, _, rfl, DPut.k (k := Sum.inl (a : Int)) hd3 (by have := szl (n := 95001) (by decide); have := hkv.len; show kvs.length < sizeLine; omega), ?_⟩
  have t4 := t03.trans (fr_upd (o := .dK (putK kvs (Sum.inl (a : Int)) v)) hd3 fun _ z => by cases z)
  refine q _ (fun b u n1 n2 e => by rw [upd_ne n2]; exact k3 _ _ n1 n2 e) ⟨⟨dx, by rw [upd_ne nod, used_set hi, List.length_set]; exact ho3⟩, ⟨_, upd_same, ?_⟩⟩
  have := CsAt.set (hat.keep t4) (hkv.keep t4) hi
  rw [Nat.zero_add] at this
  exact this
abbrev sFits : Stmt := inClass (topS 14) 5
theorem scFits : FnScope ["self", "size"] ["self", "size"] (defScope sFits) := ⟨rfl, rfl, rfl, by decide +kernel, rfl, by decide +kernel, by decide +kernel⟩
def spFits (C : Addr) : Sp := fun vs H Q _ => ∃ (p : Pl) (z : Int) (cs : List Cl), vs = [.ref p.ho, .int z] ∧ hAt C H p cs ∧ Q (.bl (decide (used cs + z ≤ p.room))) H
theorem c_fits {f : Addr} {fd : FuncData} (T : TxtH K C) (me : Meth K C "fits" f) (F : Fun K "fits" "Heap.fits" sFits f fd) (b : Binds K fd ["self", "size"] []) : C8.Met P w K mg base 1 C "fits" (spFits C) [] := by
  refine met_of T.cl me F b scFits (fun vs H Q E h => ?_) (fun cdv A outer s H vs Q E hr h => ?_)
  · obtain ⟨p, z, cs, rfl, _⟩ := h
    rfl
  obtain ⟨p, z, cs, rfl, ⟨⟨dx, ho⟩, kvs, hd, hkv⟩, q⟩ := h
  have hu := hu_of hr
  refine ⟨_, (pss_one (ps_ret (pe_cmpR op_le (pe_op op_add (pe_fld (pv 0) rfl) (pv 1)) (pe_fld (pv 0) rfl) (nomark _)))), ?_⟩
  refine ⟨_, rfl, p.ho, C, dx, _, .int (used cs), rfl, ho, T.cl, T.nU, fldH_used _ _ _ _, _, rfl, _, _, rfl, rfl, _, rfl, p.ho, C, dx, _, .int p.room, rfl, ho, T.cl, T.nR, fldH_room _ _ _ _, _, _, rfl, rfl, ?_⟩
  exact q
end
end Toy

set_option Elab.async false
set_option linter.all false
set_option maxRecDepth 100000
set_option maxHeartbeats 4000000
/-! Part E: entering, evaluating. -/
namespace Toy
open PySem L2
open PyProof.Rows (envOfC)
theorem at4 (x y z u t : V) (l : List V) : atI (x :: y :: z :: u :: t :: l) 4 = some t := atI_nat (j := 4) rfl
theorem take_snoc {α : Type} {l : List α} {i : Nat} {q : α} (h : l[i]? = some q) : l.take (i + 1) = l.take i ++ [q] := by
  rw [List.take_add_one, h]
  rfl
theorem ws_at {H : Hp} {ws : List Int} {v : V} (h : (wsD ws).At F0 H v) : ∃ a, v = .ref a ∧ H a = some (.tup (ws.map V.int)) := by
  obtain ⟨a, xs, rfl, ha, hs⟩ := h
  rw [ints_back hs] at ha
  exact ⟨a, rfl, ha⟩
theorem ws_of {H : Hp} {ws : List Int} {a : Addr} (h : H a = some (.tup (ws.map V.int))) : (wsD ws).At F0 H (.ref a) := ⟨a, _, rfl, h, ats_ints⟩
theorem sqT_same {K : PySem.W.Frag} {H H' : Hp} {a : Addr} {xs : List V} (h : SqT K H a xs) (e : Same H H') : SqT K H' a xs := by
  rcases h with (h | ⟨o, h⟩) | h
  · exact .inl (.inl (e _ _ h))
  · exact .inl (.inr ⟨o, e _ _ h⟩)
  · exact .inr h
/-- how what it does stands -/
def NwAt (K : PySem.W.Frag) (H : Hp) : Nw → V → Prop
  | .stuck, v => ∃ a, v = .ref a ∧ SqT K H a [.str "stuck"]
  | .enter w, v => (Nw.enter w).D.At F0 H v
  | .eval b ws, v => (Nw.eval b ws).D.At F0 H v
  | .val w, v => (Nw.val w).D.At F0 H v
  | .fin, v => Nw.fin.D.At F0 H v
  | .fault s, v => (Nw.fault s).D.At F0 H v
  | .loop, v => Nw.loop.D.At F0 H v
  | .full, v => Nw.full.D.At F0 H v
structure TxtMk (K : PySem.W.Frag) (C : Addr) : Prop where
  cl : Cls K C
  n_functions : NoAttr K C "functions"
  n_heap : NoAttr K C "heap"
  n_serial : NoAttr K C "next_serial"
  n_stack : NoAttr K C "stack"
  n_now : NoAttr K C "now"
  n_events : NoAttr K C "events"
  n_entered : NoAttr K C "entered"
  n_collections : NoAttr K C "collections"
structure TxtEv (mg : Str → Option Value) : Prop where
  zlen : mg "len" = none
  ztuple : mg "tuple" = none
  zsum : mg "sum" = none
  zrange : mg "range" = none
section
variable {P : Program} {w : World} {K : PySem.W.Frag} {mg : Str → Option Value} {base : Heap} {CM CH : Addr}
abbrev sWordOf : Stmt := topS 16
theorem scWordOf : FnScope ["operand", "words", "place", "value"] ["operand", "words"] (defScope sWordOf) := ⟨rfl, rfl, rfl, by decide +kernel, rfl, by decide +kernel, by decide +kernel⟩
def spWordOf : Sp := fun vs H Q _ => ∃ (ov wv : V) (o : Dd) (ws : List Int) (x : Int), vs = [ov, wv] ∧ o.At F0 H ov ∧ (wsD ws).At F0 H wv ∧ OpS o ws x ∧ Q (.int x) H
theorem c_wordof {f : Addr} {fd : FuncData} (F : Fun K "word_of" "word_of" sWordOf f fd) (b : Binds K fd ["operand", "words"] []) (hm : mg "word_of" = some (.ref f)) : C8.Cal P w K mg base 1 "word_of" spWordOf [] := by
  refine cal_of F hm b scWordOf (fun vs H Q E h => ?_) (fun cdv A outer s H vs Q E hr h => ?_)
  · obtain ⟨ov, wv, o, ws, x, rfl, _⟩ := h
    rfl
  obtain ⟨ov, wv, o, ws, x, rfl, hat, hws, hop, q⟩ := h
  refine ⟨_, (pss_cons (ps_asg (pv 0) (pg_tup rfl (pgs_cons (pg_name (i := 2) scWordOf.nd rfl (Or.inl rfl)) (pgs_cons (pg_name (i := 3) scWordOf.nd rfl (Or.inl rfl)) pgs_nil))))
    (pss_cons (ps_if (pt_cmpR op_eq (pv 2) pe_str (nomark _))
      (pss_one (ps_ret (pe_ix ix_tup (pv 1) (pv 3) (fun _ _ => rfl))))
      pss_nil)
    (pss_one (ps_ret (pe_ifExp (pt_cmpR op_eq (pv 2) pe_str (nomark _)) (pe_op op_mul pe_int (pv 3)) (pe_op op_add (pe_op op_mul pe_int (pv 3)) pe_int)))))), ?_⟩
  obtain ⟨wa, rfl, hwa⟩ := ws_at hws
  cases hop with
  | @slot i _ _ hi =>
    obtain ⟨a, xs, rfl, ha, x1, ys, rfl, ⟨rfl, _⟩, y1, zs, rfl, hy, hn⟩ := hat
    cases (show zs = [] from hn)
    cases (show y1 = .int (i : Int) from hy)
    refine ⟨_, rfl, a, _, rfl, SqT.of ha, rfl, _, _, rfl, _, _, rfl, rfl, ?_⟩
    refine ⟨_, rfl, rfl, _, rfl, ?_⟩
    refine iteT ?_
    exact ⟨_, rfl, _, rfl, wa, _, (i : Int), _, rfl, rfl, SqT.of hwa, atI_nat (by rw [List.getElem?_map, hi]; rfl), q⟩
  | @glob i _ =>
    obtain ⟨a, xs, rfl, ha, x1, ys, rfl, ⟨rfl, _⟩, y1, zs, rfl, hy, hn⟩ := hat
    cases (show zs = [] from hn)
    cases (show y1 = .int i from hy)
    refine ⟨_, rfl, a, _, rfl, SqT.of ha, rfl, _, _, rfl, _, _, rfl, rfl, ?_⟩
    refine ⟨_, rfl, rfl, _, rfl, ?_⟩
    show if decide (V.str "global" = V.str "slot") = true then _ else _
    rw [wne (show ("global" : Str) ≠ "slot" by decide +kernel)]
    refine iteF ?_
    refine ⟨_, rfl, rfl, _, rfl, ?_⟩
    refine iteT ?_
    exact ⟨_, rfl, _, _, rfl, rfl, .inl ⟨by decide, by decide⟩, q⟩
  | @num i _ =>
    obtain ⟨a, xs, rfl, ha, x1, ys, rfl, ⟨rfl, _⟩, y1, zs, rfl, hy, hn⟩ := hat
    cases (show zs = [] from hn)
    cases (show y1 = .int i from hy)
    refine ⟨_, rfl, a, _, rfl, SqT.of ha, rfl, _, _, rfl, _, _, rfl, rfl, ?_⟩
    refine ⟨_, rfl, rfl, _, rfl, ?_⟩
    show if decide (V.str "number" = V.str "slot") = true then _ else _
    rw [wne (show ("number" : Str) ≠ "slot" by decide +kernel)]
    refine iteF ?_
    refine ⟨_, rfl, rfl, _, rfl, ?_⟩
    show if decide (V.str "number" = V.str "global") = true then _ else _
    rw [wne (show ("number" : Str) ≠ "global" by decide +kernel)]
    refine iteF ?_
    exact ⟨_, rfl, _, _, rfl, rfl, .inl ⟨by decide, by decide⟩, _, _, rfl, rfl, q⟩
abbrev sWordsOf : Stmt := topS 28
theorem scWordsOf : FnScope ["operands", "words", "operand"] ["operands", "words"] (defScope sWordsOf) := ⟨rfl, rfl, rfl, by decide +kernel, rfl, by decide +kernel, by decide +kernel⟩
def spWordsOf : Sp := fun vs H Q _ => ∃ (ov wv : V) (os : List Dd) (ws us : List Int), vs = [ov, wv] ∧ (Dd.tup os).At F0 H ov ∧ (wsD ws).At F0 H wv ∧ OpsS os ws us ∧ os.length ≤ 1000 ∧ ∀ (t : Addr) (H' : Hp), Same H H' → H' t = some (.tup (us.map V.int)) → Q (.ref t) H'
theorem c_wordsof {f : Addr} {fd : FuncData} (T : TxtEv mg) (cword_of : C8.Cal P w K mg base 1 "word_of" spWordOf []) (F : Fun K "_words_of" "_words_of" sWordsOf f fd) (b : Binds K fd ["operands", "words"] []) (hm : mg "_words_of" = some (.ref f)) : C8.Cal P w K mg base 2 "_words_of" spWordsOf [] := by
  refine cal_of F hm b scWordsOf (fun vs H Q E h => ?_) (fun cdv A outer s H vs Q E hr h => ?_)
  · obtain ⟨ov, wv, os, ws, us, rfl, _⟩ := h
    rfl
  obtain ⟨ov, wv, os, ws, us, rfl, ⟨a, xs, rfl, ha, hs⟩, hws, hop, hl, q⟩ := h
  refine ⟨_, (pss_one (ps_ret (pe_callTy call_tuple_of rfl T.ztuple boot_tuple (pa_cons (pe_lc (own := [("operand", 2)]) (g := gName 2) (tt := tYes) (te := (tCall spWordOf [] C8.E0 (tCons (tVar 2) (tCons (tVar 1) tNil)))) rfl scWordsOf.nd (pi_tup (pv 0)) (blkOk_by (own := [("operand", 2)]) (N := ["operands", "words", "operand"]) (sc := defScope sWordsOf) (by decide +kernel)) (fun _ _ _ _ _ => (pg_name (i := 2) scWordsOf.nd rfl (Or.inl rfl))) (fun _ _ _ _ _ => pts_nil) (fun _ _ _ _ _ => (C8.pe_c cword_of hr (by decide) rfl (pa_cons (pv 2) (pa_cons (pv 1) pa_nil))))) pa_nil)))), ?_⟩
  obtain ⟨wa, rfl, hwa⟩ := ws_at hws
  have hxl := ats_len hs
  have hul := hop.len
  refine ⟨_, rfl, a, rfl, ⟨xs, SqT.of ha⟩, fun D hD => ?_⟩
  refine lc_tup (K := K) (a := a) (xs := xs) (fun i G => Same H G ∧ G D = some (.lst ((us.take i).map V.int))) ⟨same_new hD _, upd_same⟩ (fun i G hi ⟨h1, h2⟩ => SqT.of (h1 _ _ ha)) ?_ ?_
  · rintro i x G hx ⟨h1, h2⟩
    obtain ⟨o, ho, hoat⟩ := ats_get hs hx
    obtain ⟨u, hu, hou⟩ := hop.get ho
    refine ⟨rfl, ?_⟩
    refine tYes_if ?_
    have hil : i < us.length := (List.getElem?_eq_some_iff.mp hu).1
    refine ⟨_, rfl, _, rfl, x, .ref wa, o, ws, u, rfl, hoat.keep (fr_same h1), ws_of (h1 _ _ hwa), hou, _, h2, ?_, same_upd hD h1 _, ?_⟩
    · rw [List.length_map, List.length_take]
      exact szl (by omega)
    · rw [upd_same, take_snoc hu, List.map_append]
      rfl
  · rintro G ⟨h1, h2⟩
    rw [show us.take xs.length = us from List.take_of_length_le (by omega)] at h2
    exact ⟨D, _, rfl, .inl ⟨SqL.of h2, fun t ht => q t _ (sameT h1 (same_new ht _)) upd_same⟩⟩
end
end Toy

set_option Elab.async false
set_option linter.all false
set_option maxRecDepth 100000
set_option maxHeartbeats 4000000
/-! Part F: entering; a member's cell and size. -/
namespace Toy
open PySem L2
open PyProof.Rows (envOfC)
theorem in_strs (z : Str) (zs : List Str) : (if false = true then !inV (.str z) (zs.map V.str) else inV (.str z) (zs.map V.str)) = decide (z ∈ zs) := by rw [if_neg (by decide), inV_strs]
theorem flat_strs : ∀ l : List Str, (l.map V.str).all flatV = true
  | [] => rfl
  | y :: l => by
    rw [List.map_cons, List.all_cons, flat_strs l]
    rfl
theorem cell_word {H : Hp} {c : Cl} {v : V} (h : c.D.At F0 H v) : ∃ a xs, v = .ref a ∧ H a = some (.tup (.str c.word :: xs)) := by
  cases c with
  | hole => obtain ⟨a, xs, rfl, ha, x, ys, rfl, ⟨rfl, _⟩, hy⟩ := h; exact ⟨a, _, rfl, ha⟩
  | on i => obtain ⟨a, xs, rfl, ha, x, ys, rfl, ⟨rfl, _⟩, hy⟩ := h; exact ⟨a, _, rfl, ha⟩
  | lat b ws s => obtain ⟨a, xs, rfl, ha, x, ys, rfl, ⟨rfl, _⟩, hy⟩ := h; exact ⟨a, _, rfl, ha⟩
  | part i ws => obtain ⟨a, xs, rfl, ha, x, ys, rfl, ⟨rfl, _⟩, hy⟩ := h; exact ⟨a, _, rfl, ha⟩
  | con t ws => obtain ⟨a, xs, rfl, ha, x, ys, rfl, ⟨rfl, _⟩, hy⟩ := h; exact ⟨a, _, rfl, ha⟩
theorem odd_ne (n : Int) : (!decide (V.int ((2 * n + 1) % 2) = V.int 0)) = true := by
  rw [decide_eq_false (fun e => by have := V.int.inj e; omega)]
  rfl
theorem even_ne (n : Int) : (!decide (V.int ((2 * n) % 2) = V.int 0)) = false := by
  rw [decide_eq_true (by rw [show (2 * n) % 2 = 0 by omega])]
  rfl
theorem half (n : Int) : (2 * n) / 2 = n := by omega
theorem half1 (n : Int) : (2 * n + 1) / 2 = n := by omega
theorem nin_cp {z : Str} (h1 : z ≠ "con") (h2 : z ≠ "part") : decide (z ∈ [("con" : Str), "part"]) = false := decide_eq_false (by simp [h1, h2])
section
variable {P : Program} {w : World} {K : PySem.W.Frag} {mg : Str → Option Value} {base : Heap} {CM CH : Addr}
abbrev sEnter : Stmt := topS 10
theorem scEnter : FnScope ["machine", "word", "address", "cell", "_", "body", "words", "serial"] ["machine", "word"] (defScope sEnter) := ⟨rfl, rfl, rfl, by decide +kernel, rfl, by decide +kernel, by decide +kernel⟩
def spEnter (K : PySem.W.Frag) (CM CH : Addr) : Sp := fun vs H Q _ => ∃ (p : Pl) (m m' : Mc) (nv : V) (co x : Int) (n : Nw), vs = [.ref p.mo, .int x] ∧ MkAt CM CH H p m nv co ∧ EnS x m n m' ∧ m.small ∧ ∀ (v' : V) (H' : Hp), KeepM p H H' → MkAt CM CH H' p m' nv co → NwAt K H' n v' → Q v' H'
theorem c_enter {f : Addr} {fd : FuncData} (TM : TxtMk K CM) (TH : TxtH K CH) (ccell : C8.Met P w K mg base 1 CH "cell" (spCell CH) []) (cput : C8.Met P w K mg base 2 CH "put" (spPut CH) []) (F : Fun K "enter" "enter" sEnter f fd) (b : Binds K fd ["machine", "word"] []) (hm : mg "enter" = some (.ref f)) : C8.Cal P w K mg base 3 "enter" (spEnter K CM CH) [] := by
  refine cal_of F hm b scEnter (fun vs H Q E h => ?_) (fun cdv A outer s H vs Q E hr h => ?_)
  · obtain ⟨p, m, m', nv, co, x, n, rfl, _⟩ := h
    rfl
  obtain ⟨p, m, m', nv, co, x, n, rfl, M, hst, hsm, q⟩ := h
  refine ⟨_, (pss_cons (ps_if (pt_cmpR op_ne (pe_op op_mod (pv 1) pe_int) pe_int (nomark _))
      (pss_one (ps_ret (pe_tup (pa_cons pe_str (pa_cons (pv 1) pa_nil)))))
      pss_nil)
    (pss_cons (ps_set (i := 2) scEnter.nd rfl (Or.inl rfl) (pe_op op_fdiv (pv 1) pe_int))
    (pss_cons (ps_set (i := 3) scEnter.nd rfl (Or.inl rfl) (C8.pe_mt ccell hr (by decide) (pe_fld (pv 0) rfl) (pa_cons (pv 2) pa_nil)))
    (pss_cons (ps_if (pt_cmpR op_in_seq (pe_ix ix_tup (pv 3) pe_int (fun _ _ => rfl)) (pe_tup (pa_cons pe_str (pa_cons pe_str pa_nil))) rfl)
      (pss_one (ps_ret (pe_tup (pa_cons pe_str (pa_cons (pv 1) pa_nil)))))
      pss_nil)
    (pss_cons (ps_if (pt_cmpR op_eq (pe_ix ix_tup (pv 3) pe_int (fun _ _ => rfl)) pe_str (nomark _))
      (pss_one (ps_ret (pe_tup (pa_cons pe_str (pa_cons (pe_ix ix_tup (pv 3) pe_int (fun _ _ => rfl)) pa_nil)))))
      pss_nil)
    (pss_cons (ps_if (pt_cmpR op_eq (pe_ix ix_tup (pv 3) pe_int (fun _ _ => rfl)) pe_str (nomark _))
      (pss_one (ps_ret (pe_tup (pa_cons pe_str pa_nil))))
      pss_nil)
    (pss_cons (ps_asg (pv 3) (pg_tup rfl (pgs_cons (pg_name (i := 4) scEnter.nd rfl (Or.inl rfl)) (pgs_cons (pg_name (i := 5) scEnter.nd rfl (Or.inl rfl)) (pgs_cons (pg_name (i := 6) scEnter.nd rfl (Or.inl rfl)) (pgs_cons (pg_name (i := 7) scEnter.nd rfl (Or.inl rfl)) pgs_nil))))))
    (pss_cons (ps_expr (C8.pe_mt cput hr (by decide) (pe_fld (pv 0) rfl) (pa_cons (pv 2) (pa_cons (pe_tup (pa_cons pe_str pa_nil)) pa_nil))))
    (pss_cons (ps_expr (pe_bm PySem.F.plainAttrs_list PySem.F.slot_list_append PySem.F.type_list_append mt_append (pe_fld (pv 0) rfl) (pa_cons (pv 7) pa_nil)))
    (pss_cons (ps_expr (pe_bm PySem.F.plainAttrs_list PySem.F.slot_list_append PySem.F.type_list_append mt_append (pe_fld (pv 0) rfl) (pa_cons (pe_tup (pa_cons pe_str (pa_cons (pv 2) pa_nil))) pa_nil)))
    (pss_one (ps_ret (pe_tup (pa_cons pe_str (pa_cons (pv 5) (pa_cons (pv 6) pa_nil)))))))))))))))), ?_⟩
  obtain ⟨dx, ho⟩ := M.o
  obtain ⟨⟨dy, hho⟩, _⟩ := id M.h
  refine ⟨_, rfl, _, _, rfl, rfl, (show (0 : Int) < 2 by decide), rfl, _, rfl, ?_⟩
  have tup2 : ∀ (H1 : Hp) (z : Str) (x : V) (k : Dd), z.length ≤ 1000 → Same H H1 → k.At F0 H x → ∀ t, H1 t = none → (Dd.tup [.str z, k]).At F0 (upd H1 t (.tup [.str z, x])) (.ref t) := fun H1 z x k hz s1 hk t ht => at_tup upd_same (ats_cons (at_str' hz) (ats_cons (hk.keep (fr_same (sameT s1 (same_new ht _)))) ats_nil))
  -- the cell under an even word
  have even : ∀ {A B : Prop}, ∀ n : Int, B → if (!decide (V.int ((2 * n) % 2) = V.int 0)) = true then A else B := fun n hb => by rw [even_ne]; exact iteF hb
  cases hst with
  | @odd n _ =>
    show if (!decide (V.int ((2 * n + 1) % 2) = V.int 0)) = true then _ else _
    rw [odd_ne]
    refine iteT ?_
    refine ⟨_, rfl, by show 2 ≤ sizeLine; decide, fun t ht => ?_⟩
    have s1 := same_new ht (.tup [.str "value", .int (2 * n + 1)])
    exact q _ _ (KeepM.same s1) (M.same s1) (tup2 H "value" _ (.int _) (by decide +kernel) same_id rfl t ht)
  | @val n _ c hc hcw =>
    refine even (n : Int) ?_
    refine ⟨_, rfl, _, _, rfl, rfl, ⟨by decide, by decide⟩, ?_⟩
    show gName 2 (V.int ((2 * (n : Int)) / 2)) _ _ _
    rw [half]
    refine ⟨_, rfl, p.mo, CM, dx, _, .ref p.ho, rfl, ho, TM.cl, TM.n_heap, fM_heap .., p.ho, dy, _, rfl, hho, fldH_no_cell .., _, rfl, p, m.cs, n, _, rfl, M.h, hc, fun cv hcv => ?_⟩
    obtain ⟨ca, cxs, rfl, hca⟩ := cell_word hcv
    refine ⟨_, rfl, ca, _, 0, _, rfl, rfl, SqT.of hca, at0 _ _, by show 2 ≤ sizeLine; decide, fun u hu => ?_⟩
    have s1 := same_new hu (.tup [.str "con", .str "part"])
    have e1 : upd H u (.tup [.str "con", .str "part"]) u = some (.tup ([("con" : Str), "part"].map V.str)) := upd_same
    refine ⟨u, _, rfl, .inr (SqT.of e1), rfl, flat_strs _, ?_⟩
    rw [in_strs]
    refine ⟨_, rfl, ?_⟩
    generalize upd H u (.tup [.str "con", .str "part"]) = H1 at s1 e1 ⊢
    rw [show decide (c.word ∈ [("con" : Str), "part"]) = true from decide_eq_true (by rcases hcw with h | h <;> rw [h] <;> decide +kernel)]
    refine iteT ?_
    refine ⟨_, rfl, by show 2 ≤ sizeLine; decide, fun t ht => ?_⟩
    have s2 := sameT s1 (same_new ht (.tup [.str "value", .int (2 * (n : Int))]))
    exact q _ _ (KeepM.same s2) (M.same s2) (tup2 H1 "value" _ (.int _) (by decide +kernel) s1 rfl t ht)
  | @on n _ w hc =>
    refine even (n : Int) ?_
    refine ⟨_, rfl, _, _, rfl, rfl, ⟨by decide, by decide⟩, ?_⟩
    show gName 2 (V.int ((2 * (n : Int)) / 2)) _ _ _
    rw [half]
    refine ⟨_, rfl, p.mo, CM, dx, _, .ref p.ho, rfl, ho, TM.cl, TM.n_heap, fM_heap .., p.ho, dy, _, rfl, hho, fldH_no_cell .., _, rfl, p, m.cs, n, _, rfl, M.h, hc, fun cv hcv => ?_⟩
    obtain ⟨ca, cxs, rfl, hca⟩ := cell_word hcv
    refine ⟨_, rfl, ca, _, 0, _, rfl, rfl, SqT.of hca, at0 _ _, by show 2 ≤ sizeLine; decide, fun u hu => ?_⟩
    have s1 := same_new hu (.tup [.str "con", .str "part"])
    have e1 : upd H u (.tup [.str "con", .str "part"]) u = some (.tup ([("con" : Str), "part"].map V.str)) := upd_same
    refine ⟨u, _, rfl, .inr (SqT.of e1), rfl, flat_strs _, ?_⟩
    rw [in_strs]
    refine ⟨_, rfl, ?_⟩
    generalize upd H u (.tup [.str "con", .str "part"]) = H1 at s1 e1 ⊢
    rw [nin_cp (z := (Cl.on w).word) (show ("on" : Str) ≠ "con" by decide +kernel) (show ("on" : Str) ≠ "part" by decide +kernel)]
    refine iteF ?_
    refine ⟨_, rfl, ca, _, 0, _, rfl, rfl, SqT.of (s1 _ _ hca), at0 _ _, rfl, _, rfl, ?_⟩
    refine iteT ?_
    obtain ⟨a2, xs2, e2, ha2, x1, ys1, rfl, hx1, y1, zs1, rfl, hy1, hn1⟩ := hcv
    cases e2
    rw [hca] at ha2
    cases ha2
    cases (show y1 = .int w from hy1)
    refine ⟨_, rfl, ca, _, 1, _, rfl, rfl, SqT.of (s1 _ _ hca), at1 _ _ _, by show 2 ≤ sizeLine; decide, fun t ht => ?_⟩
    have s2 := sameT s1 (same_new ht (.tup [.str "enter", .int w]))
    exact q _ _ (KeepM.same s2) (M.same s2) (tup2 H1 "enter" _ (.int _) (by decide +kernel) s1 rfl t ht)
  | @hole n _ hc =>
    refine even (n : Int) ?_
    refine ⟨_, rfl, _, _, rfl, rfl, ⟨by decide, by decide⟩, ?_⟩
    show gName 2 (V.int ((2 * (n : Int)) / 2)) _ _ _
    rw [half]
    refine ⟨_, rfl, p.mo, CM, dx, _, .ref p.ho, rfl, ho, TM.cl, TM.n_heap, fM_heap .., p.ho, dy, _, rfl, hho, fldH_no_cell .., _, rfl, p, m.cs, n, _, rfl, M.h, hc, fun cv hcv => ?_⟩
    obtain ⟨ca, cxs, rfl, hca⟩ := cell_word hcv
    refine ⟨_, rfl, ca, _, 0, _, rfl, rfl, SqT.of hca, at0 _ _, by show 2 ≤ sizeLine; decide, fun u hu => ?_⟩
    have s1 := same_new hu (.tup [.str "con", .str "part"])
    have e1 : upd H u (.tup [.str "con", .str "part"]) u = some (.tup ([("con" : Str), "part"].map V.str)) := upd_same
    refine ⟨u, _, rfl, .inr (SqT.of e1), rfl, flat_strs _, ?_⟩
    rw [in_strs]
    refine ⟨_, rfl, ?_⟩
    generalize upd H u (.tup [.str "con", .str "part"]) = H1 at s1 e1 ⊢
    rw [nin_cp (z := Cl.hole.word) (show ("hole" : Str) ≠ "con" by decide +kernel) (show ("hole" : Str) ≠ "part" by decide +kernel)]
    refine iteF ?_
    refine ⟨_, rfl, ca, _, 0, _, rfl, rfl, SqT.of (s1 _ _ hca), at0 _ _, rfl, _, rfl, ?_⟩
    show if decide (V.str Cl.hole.word = V.str "on") = true then _ else _
    rw [wne (z := Cl.hole.word) (show ("hole" : Str) ≠ "on" by decide +kernel)]
    refine iteF ?_
    refine ⟨_, rfl, ca, _, 0, _, rfl, rfl, SqT.of (s1 _ _ hca), at0 _ _, rfl, _, rfl, ?_⟩
    refine iteT ?_
    refine ⟨by show 1 ≤ sizeLine; decide, fun t ht => ?_⟩
    have s2 := sameT s1 (same_new ht (.tup [.str "loop"]))
    exact q _ _ (KeepM.same s2) (M.same s2) (at_tup upd_same (ats_cons (at_str' (by decide +kernel)) ats_nil))
  | @lat n _ bd ws sr hc =>
    refine even (n : Int) ?_
    refine ⟨_, rfl, _, _, rfl, rfl, ⟨by decide, by decide⟩, ?_⟩
    show gName 2 (V.int ((2 * (n : Int)) / 2)) _ _ _
    rw [half]
    refine ⟨_, rfl, p.mo, CM, dx, _, .ref p.ho, rfl, ho, TM.cl, TM.n_heap, fM_heap .., p.ho, dy, _, rfl, hho, fldH_no_cell .., _, rfl, p, m.cs, n, _, rfl, M.h, hc, fun cv hcv => ?_⟩
    obtain ⟨ca, cxs, rfl, hca⟩ := cell_word hcv
    refine ⟨_, rfl, ca, _, 0, _, rfl, rfl, SqT.of hca, at0 _ _, by show 2 ≤ sizeLine; decide, fun u hu => ?_⟩
    have s1 := same_new hu (.tup [.str "con", .str "part"])
    have e1 : upd H u (.tup [.str "con", .str "part"]) u = some (.tup ([("con" : Str), "part"].map V.str)) := upd_same
    refine ⟨u, _, rfl, .inr (SqT.of e1), rfl, flat_strs _, ?_⟩
    rw [in_strs]
    refine ⟨_, rfl, ?_⟩
    generalize upd H u (.tup [.str "con", .str "part"]) = H1 at s1 e1 ⊢
    rw [nin_cp (z := (Cl.lat bd ws sr).word) (show ("later" : Str) ≠ "con" by decide +kernel) (show ("later" : Str) ≠ "part" by decide +kernel)]
    refine iteF ?_
    refine ⟨_, rfl, ca, _, 0, _, rfl, rfl, SqT.of (s1 _ _ hca), at0 _ _, rfl, _, rfl, ?_⟩
    show if decide (V.str (Cl.lat bd ws sr).word = V.str "on") = true then _ else _
    rw [wne (z := (Cl.lat bd ws sr).word) (show ("later" : Str) ≠ "on" by decide +kernel)]
    refine iteF ?_
    refine ⟨_, rfl, ca, _, 0, _, rfl, rfl, SqT.of (s1 _ _ hca), at0 _ _, rfl, _, rfl, ?_⟩
    show if decide (V.str (Cl.lat bd ws sr).word = V.str "hole") = true then _ else _
    rw [wne (z := (Cl.lat bd ws sr).word) (show ("later" : Str) ≠ "hole" by decide +kernel)]
    refine iteF ?_
    obtain ⟨a2, xs2, e2, ha2, x1, ys1, rfl, hx1, y1, zs1, rfl, hy1, y2, zs2, rfl, hy2, y3, zs3, rfl, hy3, hn1⟩ := hcv
    cases e2
    rw [hca] at ha2
    cases ha2
    cases (show zs3 = [] from hn1)
    cases (show y3 = .int sr from hy3)
    refine ⟨_, rfl, ca, _, rfl, SqT.of (s1 _ _ hca), rfl, _, _, rfl, _, _, rfl, _, _, rfl, _, _, rfl, rfl, ?_⟩
    have M1 := M.same s1
    obtain ⟨dx1, ho1⟩ := M1.o
    obtain ⟨⟨dy1, hho1⟩, _⟩ := id M1.h
    refine ⟨_, rfl, p.mo, CM, dx1, _, .ref p.ho, rfl, ho1, TM.cl, TM.n_heap, fM_heap .., p.ho, dy1, _, rfl, hho1, fldH_no_put .., _, rfl, by show 1 ≤ sizeLine; decide, fun t ht => ?_⟩
    have s2 := same_new ht (.tup [.str "hole"])
    have M2 := M1.same s2
    refine ⟨p, m.cs, n, _, .hole, _, rfl, M2.h, M2.ok.2.2.2.2.2.1, hc, at_tup upd_same (ats_cons (at_str' (by decide +kernel)) ats_nil), Nat.le_trans hsm.c (by decide), fun H3 k3 h3 => ?_⟩
    obtain ⟨M3, km3, fr3⟩ := M2.cells h3 k3
    obtain ⟨dx3, ho3⟩ := M3.o
    obtain ⟨es, hes, hesA⟩ := id M3.n
    have hesl := ats_len hesA
    rw [List.length_map] at hesl
    have hsn := hsm.n
    refine ⟨_, rfl, p.mo, CM, dx3, _, .ref p.na, rfl, ho3, TM.cl, TM.n_entered, fM_entered .., .inl ⟨rfl, _, SqL.of hes⟩, _, rfl, p.na, _, _, rfl, rfl, hes, szl (by have : es.length = m.ent.length := hesl; omega), ?_⟩
    obtain ⟨M4, km4, fr4⟩ := M3.ents hes (i := sr)
    generalize upd H3 p.na (.lst (es ++ [.int sr])) = H4 at M4 km4 fr4 ⊢
    obtain ⟨dx4, ho4⟩ := M4.o
    obtain ⟨ss, hss, hssA⟩ := id M4.s
    have hssl := ats_len hssA
    rw [List.length_map] at hssl
    have hss' := hsm.s
    refine ⟨_, rfl, p.mo, CM, dx4, _, .ref p.sa, rfl, ho4, TM.cl, TM.n_stack, fM_stack .., .inl ⟨rfl, _, SqL.of hss⟩, _, rfl, by show 2 ≤ sizeLine; decide, fun t5 ht5 => ?_⟩
    have s5 := same_new ht5 (.tup [.str "update", .int (n : Int)])
    have M5 := M4.same s5
    have hv5 : (Fm.upd (n : Int)).D.At F0 (upd H4 t5 (.tup [.str "update", .int (n : Int)])) (.ref t5) := at_tup upd_same (ats_cons (at_str' (by decide +kernel)) (ats_cons rfl ats_nil))
    have hss5 := s5 _ _ hss
    generalize upd H4 t5 (.tup [.str "update", .int (n : Int)]) = H5 at s5 M5 hv5 hss5 ⊢
    refine ⟨p.sa, _, _, rfl, rfl, hss5, szl (by have : ss.length = m.stk.length := hssl; omega), ?_⟩
    obtain ⟨M6, km6, fr6⟩ := M5.push hss5 hv5
    generalize upd H5 p.sa (.lst (ss ++ [.ref t5])) = H6 at M6 km6 fr6 ⊢
    have frA : Fr F0 H H6 := (((((fr_same s1).trans (fr_same s2)).trans fr3).trans fr4).trans (fr_same s5)).trans fr6
    refine ⟨_, rfl, _, rfl, by show 3 ≤ sizeLine; decide, fun t7 ht7 => ?_⟩
    have s7 := same_new ht7 (.tup [.str "eval", y1, y2])
    refine q _ _ ((((((KeepM.same s1).trans (KeepM.same s2)).trans km3).trans km4).trans (KeepM.same s5)).trans (km6.trans (KeepM.same s7))) (M6.same s7) ?_
    exact at_tup upd_same (ats_cons (at_str' (by decide +kernel)) (ats_cons ((hy1.keep frA).keep (fr_same s7)) (ats_cons ((hy2.keep frA).keep (fr_same s7)) ats_nil)))
end
end Toy

set_option Elab.async false
set_option linter.all false
set_option maxRecDepth 100000
set_option maxHeartbeats 4000000
/-! Part G: evaluating. -/
namespace Toy
open PySem L2
open PyProof.Rows (envOfC)
theorem head_at {H : Hp} {z : Str} {r : List Dd} {v : V} (h : (Dd.tup (.str z :: r)).At F0 H v) : ∃ a ys, v = .ref a ∧ H a = some (.tup (.str z :: ys)) ∧ Dd.Ats F0 H r ys := by
  obtain ⟨a, xs, rfl, ha, x, ys, rfl, ⟨rfl, _⟩, hs⟩ := h
  exact ⟨a, ys, rfl, ha, hs⟩
theorem needE_con {t : Int} {os : List Dd} : needE (.tup [.str "con", .int t, .tup os]) = 1 + (os.length : Int) := by
  show (if ("con" : Str) = "con" then 1 + (os.length : Int) else if ("con" : Str) = "let" then ((tl (.int t)).map mbSize).sum else 0) = _
  rw [if_pos rfl]
theorem needE_let {ms : List Dd} {b : Dd} : needE (.tup [.str "let", .tup ms, b]) = (ms.map mbSize).sum := by
  show (if ("let" : Str) = "con" then 1 + ((tl b).length : Int) else if ("let" : Str) = "let" then (ms.map mbSize).sum else 0) = _
  rw [if_neg (by decide +kernel), if_pos rfl]
section
variable {P : Program} {w : World} {K : PySem.W.Frag} {mg : Str → Option Value} {base : Heap} {CM CH : Addr}
abbrev sSizeM : Stmt := topS 29
theorem scSizeM : FnScope ["member"] ["member"] (defScope sSizeM) := ⟨rfl, rfl, rfl, by decide +kernel, rfl, by decide +kernel, by decide +kernel⟩
def spSizeM : Sp := fun vs H Q _ => ∃ (kv : V) (k : Dd) (ws : List Int) (s s' : Int) (c : Cl), vs = [kv] ∧ k.At F0 H kv ∧ MbS k ws s c s' ∧ ∀ H', Same H H' → Q (.int (mbSize k)) H'
theorem c_sizem {f : Addr} {fd : FuncData} (csize_of : C8.Cal P w K mg base 1 "size_of" (spSize K) []) (F : Fun K "_size_of_member" "_size_of_member" sSizeM f fd) (b : Binds K fd ["member"] []) (hm : mg "_size_of_member" = some (.ref f)) : C8.Cal P w K mg base 2 "_size_of_member" spSizeM [] := by
  refine cal_of F hm b scSizeM (fun vs H Q E h => ?_) (fun cdv A outer s H vs Q E hr h => ?_)
  · obtain ⟨kv, k, ws, s, s', c, rfl, _⟩ := h
    rfl
  obtain ⟨kv, k, ws, s0, s', c, rfl, hat, hmb, q⟩ := h
  refine ⟨_, (pss_cons (ps_if (pt_cmpR op_eq (pe_ix ix_tup (pv 0) pe_int (fun _ _ => rfl)) pe_str (nomark _))
      (pss_one (ps_ret (C8.pe_c csize_of hr (by decide) rfl (pa_cons (pe_tup (pa_cons pe_str (pa_cons (pe_ix ix_tup (pv 0) pe_int (fun _ _ => rfl)) (pa_cons (pe_ix ix_tup (pv 0) pe_int (fun _ _ => rfl)) (pa_cons pe_int pa_nil))))) pa_nil))))
      pss_nil)
    (pss_one (ps_ret (C8.pe_c csize_of hr (by decide) rfl (pa_cons (pv 0) pa_nil))))), ?_⟩
  cases hmb with
  | @lat os bd _ us _ hop hl =>
    obtain ⟨a, xs, rfl, ha, x, ys, rfl, ⟨rfl, _⟩, y, zs, rfl, ⟨oa, oxs, rfl, hoa, hos⟩, z, ts, rfl, hz, hn⟩ := hat
    cases (show ts = [] from hn)
    refine ⟨_, rfl, a, _, 0, _, rfl, rfl, SqT.of ha, at0 _ _, rfl, _, rfl, ?_⟩
    refine iteT ?_
    refine ⟨_, rfl, a, _, 2, _, rfl, rfl, SqT.of ha, at2 _ _ _ _, _, rfl, a, _, 1, _, rfl, rfl, SqT.of ha, at1 _ _ _, by show 4 ≤ sizeLine; decide, fun t ht => ?_⟩
    have s1 := same_new ht (.tup [.str "later", z, .ref oa, .int 0])
    refine ⟨.ref t, "later", os.length, rfl, ⟨t, _, rfl, upd_same, at0 _ _, fun _ => ⟨oa, oxs, at2 _ _ _ _, SqT.of (s1 _ _ hoa), ats_len hos⟩⟩, fun H' s' => ?_⟩
    exact q _ (sameT s1 s')
  | @cp c i os _ us _ hop hl =>
    obtain ⟨a, xs, rfl, ha, x, ys, rfl, ⟨rfl, _⟩, y, zs, rfl, hy, z, ts, rfl, ⟨oa, oxs, rfl, hoa, hos⟩, hn⟩ := hat
    have e : cpW c ≠ "later" := by cases c <;> decide +kernel
    refine ⟨_, rfl, a, _, 0, _, rfl, rfl, SqT.of ha, at0 _ _, rfl, _, rfl, ?_⟩
    show if decide (V.str (cpW c) = V.str "later") = true then _ else _
    rw [wne e]
    refine iteF ?_
    refine ⟨_, rfl, .ref a, cpW c, os.length, rfl, ⟨a, _, rfl, ha, at0 _ _, fun _ => ⟨oa, oxs, at2 _ _ _ _, SqT.of hoa, ats_len hos⟩⟩, fun H' s' => ?_⟩
    have e2 : mbSize (.tup [.str (cpW c), .int i, .tup os]) = (sizeW (cpW c) os.length : Int) := if_neg e
    rw [e2] at q
    exact q _ s'
abbrev sSizeE : Stmt := topS 17
theorem scSizeE : FnScope ["body", "member"] ["body"] (defScope sSizeE) := ⟨rfl, rfl, rfl, by decide +kernel, rfl, by decide +kernel, by decide +kernel⟩
def spSizeE : Sp := fun vs H Q _ => ∃ (bv : V) (z : Wd) (r : List Dd) (ws : List Int) (m m' : Mc) (n : Nw), vs = [bv] ∧ (Dd.tup (.str z.str :: r)).At F0 H bv ∧ EvS z r ws m n m' ∧ ∀ H', Same H H' → Q (.int (needE (.tup (.str z.str :: r)))) H'
theorem c_sizee {f : Addr} {fd : FuncData} (T : TxtEv mg) (csize_of : C8.Cal P w K mg base 1 "size_of" (spSize K) []) (c_size_of_member : C8.Cal P w K mg base 2 "_size_of_member" spSizeM []) (F : Fun K "size_to_evaluate" "size_to_evaluate" sSizeE f fd) (b : Binds K fd ["body"] []) (hm : mg "size_to_evaluate" = some (.ref f)) : C8.Cal P w K mg base 3 "size_to_evaluate" spSizeE [] := by
  refine cal_of F hm b scSizeE (fun vs H Q E h => ?_) (fun cdv A outer s H vs Q E hr h => ?_)
  · obtain ⟨bv, z, r, ws, m, m', n, rfl, _⟩ := h
    rfl
  obtain ⟨bv, z, r, ws, m, m', n, rfl, hat, hev, q⟩ := h
  refine ⟨_, (pss_cons (ps_if (pt_cmpR op_eq (pe_ix ix_tup (pv 0) pe_int (fun _ _ => rfl)) pe_str (nomark _))
      (pss_one (ps_ret (C8.pe_c csize_of hr (by decide) rfl (pa_cons (pv 0) pa_nil))))
      pss_nil)
    (pss_cons (ps_if (pt_cmpR op_eq (pe_ix ix_tup (pv 0) pe_int (fun _ _ => rfl)) pe_str (nomark _))
      (pss_one (ps_ret (pe_callB (cr_sum rfl) rfl T.zsum PyProof.Rows.boot_sum (pa_cons (pe_lc (own := [("member", 1)]) (g := gName 1) (tt := tYes) (te := (tCall (spSizeM) [] C8.E0 (tCons (tVar 1) tNil))) rfl scSizeE.nd (pi_tup (pe_ix ix_tup (pv 0) pe_int (fun _ _ => rfl))) (blkOk_by (own := [("member", 1)]) (N := ["body", "member"]) (sc := defScope sSizeE) (by decide +kernel)) (fun _ _ _ _ _ => (pg_name (i := 1) scSizeE.nd rfl (Or.inl rfl))) (fun _ _ _ _ _ => pts_nil) (fun _ _ _ _ _ => (C8.pe_c c_size_of_member hr (by decide) rfl (pa_cons (pv 1) pa_nil)))) pa_nil))))
      pss_nil)
    (pss_one (ps_ret pe_int)))), ?_⟩
  obtain ⟨a, ys, rfl, ha, hs⟩ := head_at hat
  have no : ∀ {z : Wd}, z.str ≠ "con" → z.str ≠ "let" → ∀ r, needE (.tup (.str z.str :: r)) = 0 := fun h1 h2 r => by
    show (if _ = _ then _ else if _ = _ then _ else (0 : Int)) = 0
    rw [if_neg h1, if_neg h2]
  refine ⟨_, rfl, a, _, 0, _, rfl, rfl, SqT.of ha, at0 _ _, rfl, _, rfl, ?_⟩
  cases hev with
  | @con t os _ us _ hop hl =>
    refine iteT ?_
    obtain ⟨x, xs, rfl, hx, y, zs, rfl, ⟨oa, oxs, rfl, hoa, hos⟩, hn⟩ := hs
    refine ⟨_, rfl, .ref a, "con", os.length, rfl, ⟨a, _, rfl, ha, at0 _ _, fun _ => ⟨oa, oxs, at2 _ _ _ _, SqT.of hoa, ats_len hos⟩⟩, fun H' s' => ?_⟩
    have e2 : needE (.tup [.str "con", .int t, .tup os]) = (sizeW "con" os.length : Int) := by
      rw [needE_con, show sizeW "con" os.length = 1 + os.length from sizeW_cp true _]
      omega
    have e3 := q H' s'
    rw [show needE (.tup (.str Wd.con.str :: [.int t, .tup os])) = needE (.tup [.str "con", .int t, .tup os]) from rfl, e2] at e3
    exact e3
  | @lt ms bd _ _ cl s' hmb hl hwl =>
    show if decide (V.str "let" = V.str "con") = true then _ else _
    rw [wne (show ("let" : Str) ≠ "con" by decide +kernel)]
    refine iteF ?_
    refine ⟨_, rfl, a, _, 0, _, rfl, rfl, SqT.of ha, at0 _ _, rfl, _, rfl, ?_⟩
    refine iteT ?_
    obtain ⟨x, xs, rfl, ⟨oa, oxs, rfl, hoa, hos⟩, hn⟩ := hs
    have hol := ats_len hos
    refine ⟨_, rfl, a, _, 1, _, rfl, rfl, SqT.of ha, at1 _ _ _, oa, rfl, ⟨oxs, SqT.of hoa⟩, fun D hD => ?_⟩
    have mem : ∀ (i : Nat) (k : Dd), ms[i]? = some k → ∃ ws s c s', MbS k ws s c s' := by
      clear hos hol hoa hn
      generalize ws ++ lets m.cs.length ms.length = wz at hmb
      generalize m.ser = sz at hmb
      clear hl q hat
      induction hmb with
      | nil => intro i k e; simp at e
      | cons h1 _ ih =>
        intro i k e
        cases i with
        | zero => cases e; exact ⟨_, _, _, _, h1⟩
        | succ i => exact ih i k e
    refine lc_tup (K := K) (a := oa) (xs := oxs) (fun i G => Same H G ∧ G D = some (.lst (((ms.take i).map mbSize).map V.int))) ⟨same_new hD _, upd_same⟩ (fun i G hi ⟨h1, h2⟩ => SqT.of (h1 _ _ hoa)) ?_ ?_
    · rintro i x G hx ⟨h1, h2⟩
      obtain ⟨k, hk, hkat⟩ := ats_get hos hx
      obtain ⟨wz, sz, c, sz', hmk⟩ := mem i k hk
      have hil : i < ms.length := (List.getElem?_eq_some_iff.mp hk).1
      refine ⟨rfl, ?_⟩
      refine tYes_if ?_
      refine ⟨_, rfl, x, k, wz, sz, sz', c, rfl, hkat.keep (fr_same h1), hmk, fun G2 s2 => ⟨_, s2 _ _ h2, ?_, same_upd hD (sameT h1 s2) _, ?_⟩⟩
      · rw [List.length_map, List.length_map, List.length_take]
        exact szl (by omega)
      · rw [upd_same, take_snoc hk, List.map_append, List.map_append]
        rfl
    · rintro G ⟨h1, h2⟩
      rw [show ms.take oxs.length = ms from List.take_of_length_le (by omega)] at h2
      refine ⟨D, _, rfl, SqL.of h2, ?_⟩
      have e3 := q G h1
      rw [show needE (.tup (.str Wd.lt.str :: [.tup ms, bd])) = (ms.map mbSize).sum from needE_let] at e3
      exact e3
  | give _ =>
    show if decide (V.str "give" = V.str "con") = true then _ else _
    rw [wne (show ("give" : Str) ≠ "con" by decide +kernel)]
    refine iteF ?_
    refine ⟨_, rfl, a, _, 0, _, rfl, rfl, SqT.of ha, at0 _ _, rfl, _, rfl, ?_⟩
    show if decide (V.str "give" = V.str "let") = true then _ else _
    rw [wne (show ("give" : Str) ≠ "let" by decide +kernel)]
    refine iteF ?_
    rw [no (z := .give) (by decide +kernel) (by decide +kernel)] at q
    exact q H same_id
  | call _ _ _ =>
    show if decide (V.str "call" = V.str "con") = true then _ else _
    rw [wne (show ("call" : Str) ≠ "con" by decide +kernel)]
    refine iteF ?_
    refine ⟨_, rfl, a, _, 0, _, rfl, rfl, SqT.of ha, at0 _ _, rfl, _, rfl, ?_⟩
    show if decide (V.str "call" = V.str "let") = true then _ else _
    rw [wne (show ("call" : Str) ≠ "let" by decide +kernel)]
    refine iteF ?_
    rw [no (z := .call) (by decide +kernel) (by decide +kernel)] at q
    exact q H same_id
  | prim _ _ =>
    show if decide (V.str "prim" = V.str "con") = true then _ else _
    rw [wne (show ("prim" : Str) ≠ "con" by decide +kernel)]
    refine iteF ?_
    refine ⟨_, rfl, a, _, 0, _, rfl, rfl, SqT.of ha, at0 _ _, rfl, _, rfl, ?_⟩
    show if decide (V.str "prim" = V.str "let") = true then _ else _
    rw [wne (show ("prim" : Str) ≠ "let" by decide +kernel)]
    refine iteF ?_
    rw [no (z := .prim) (by decide +kernel) (by decide +kernel)] at q
    exact q H same_id
  | seq =>
    show if decide (V.str "seq" = V.str "con") = true then _ else _
    rw [wne (show ("seq" : Str) ≠ "con" by decide +kernel)]
    refine iteF ?_
    refine ⟨_, rfl, a, _, 0, _, rfl, rfl, SqT.of ha, at0 _ _, rfl, _, rfl, ?_⟩
    show if decide (V.str "seq" = V.str "let") = true then _ else _
    rw [wne (show ("seq" : Str) ≠ "let" by decide +kernel)]
    refine iteF ?_
    rw [no (z := .seq) (by decide +kernel) (by decide +kernel)] at q
    exact q H same_id
  | note =>
    show if decide (V.str "note" = V.str "con") = true then _ else _
    rw [wne (show ("note" : Str) ≠ "con" by decide +kernel)]
    refine iteF ?_
    refine ⟨_, rfl, a, _, 0, _, rfl, rfl, SqT.of ha, at0 _ _, rfl, _, rfl, ?_⟩
    show if decide (V.str "note" = V.str "let") = true then _ else _
    rw [wne (show ("note" : Str) ≠ "let" by decide +kernel)]
    refine iteF ?_
    rw [no (z := .note) (by decide +kernel) (by decide +kernel)] at q
    exact q H same_id
  | @ch c =>
    have n1 : chW c ≠ "con" := by cases c <;> decide +kernel
    have n2 : chW c ≠ "let" := by cases c <;> decide +kernel
    show if decide (V.str (chW c) = V.str "con") = true then _ else _
    rw [wne n1]
    refine iteF ?_
    refine ⟨_, rfl, a, _, 0, _, rfl, rfl, SqT.of ha, at0 _ _, rfl, _, rfl, ?_⟩
    show if decide (V.str (chW c) = V.str "let") = true then _ else _
    rw [wne n2]
    refine iteF ?_
    rw [no (z := .ch c) n1 n2] at q
    exact q H same_id
abbrev sMemCell : Stmt := topS 30
theorem scMemCell : FnScope ["machine", "member", "words", "_", "operands", "body", "serial"] ["machine", "member", "words"] (defScope sMemCell) := ⟨rfl, rfl, rfl, by decide +kernel, rfl, by decide +kernel, by decide +kernel⟩
def spMemCell (CM CH : Addr) : Sp := fun vs H Q _ => ∃ (p : Pl) (m : Mc) (nv kv wv : V) (co s' : Int) (k : Dd) (ws : List Int) (c : Cl), vs = [.ref p.mo, kv, wv] ∧ MkAt CM CH H p m nv co ∧ k.At F0 H kv ∧ (wsD ws).At F0 H wv ∧ MbS k ws m.ser c s' ∧ ∀ (v' : V) (H' : Hp), KeepM p H H' → MkAt CM CH H' p { m with ser := s' } nv co → c.D.At F0 H' v' → Q v' H'
theorem c_memcell {f : Addr} {fd : FuncData} (TM : TxtMk K CM) (c_words_of : C8.Cal P w K mg base 2 "_words_of" spWordsOf []) (F : Fun K "_member_cell" "_member_cell" sMemCell f fd) (b : Binds K fd ["machine", "member", "words"] []) (hm : mg "_member_cell" = some (.ref f)) : C8.Cal P w K mg base 3 "_member_cell" (spMemCell CM CH) [] := by
  refine cal_of F hm b scMemCell (fun vs H Q E h => ?_) (fun cdv A outer s H vs Q E hr h => ?_)
  · obtain ⟨p, m, nv, kv, wv, co, s', k, ws, c, rfl, _⟩ := h
    rfl
  obtain ⟨p, m, nv, kv, wv, co, s', k, ws, c, rfl, M, hat, hws, hmb, q⟩ := h
  refine ⟨_, (pss_cons (ps_if (pt_cmpR op_ne (pe_ix ix_tup (pv 1) pe_int (fun _ _ => rfl)) pe_str (nomark _))
      (pss_one (ps_ret (pe_tup (pa_cons (pe_ix ix_tup (pv 1) pe_int (fun _ _ => rfl)) (pa_cons (pe_ix ix_tup (pv 1) pe_int (fun _ _ => rfl)) (pa_cons (C8.pe_c c_words_of hr (by decide) rfl (pa_cons (pe_ix ix_tup (pv 1) pe_int (fun _ _ => rfl)) (pa_cons (pv 2) pa_nil))) pa_nil))))))
      pss_nil)
    (pss_cons (ps_asg (pv 1) (pg_tup rfl (pgs_cons (pg_name (i := 3) scMemCell.nd rfl (Or.inl rfl)) (pgs_cons (pg_name (i := 4) scMemCell.nd rfl (Or.inl rfl)) (pgs_cons (pg_name (i := 5) scMemCell.nd rfl (Or.inl rfl)) pgs_nil)))))
    (pss_cons (ps_set (i := 6) scMemCell.nd rfl (Or.inl rfl) (pe_fld (pv 0) rfl))
    (pss_cons (ps_fldaug (pv 0) pe_int ip_add)
    (pss_one (ps_ret (pe_tup (pa_cons pe_str (pa_cons (pv 5) (pa_cons (C8.pe_c c_words_of hr (by decide) rfl (pa_cons (pv 4) (pa_cons (pv 2) pa_nil))) (pa_cons (pv 6) pa_nil))))))))))), ?_⟩
  obtain ⟨dx, ho⟩ := M.o
  generalize hsr : m.ser = sr at hmb
  cases hmb with
  | @lat os bd _ us _ hop hl =>
    obtain ⟨a, xs, rfl, ha, x, ys, rfl, ⟨rfl, _⟩, y, zs, rfl, hy, z, ts, rfl, hz, hn⟩ := hat
    cases (show ts = [] from hn)
    refine ⟨_, rfl, a, _, 0, _, rfl, rfl, SqT.of ha, at0 _ _, rfl, _, rfl, ?_⟩
    refine iteF ?_
    refine ⟨_, rfl, a, _, rfl, SqT.of ha, rfl, _, _, rfl, _, _, rfl, _, _, rfl, rfl, ?_⟩
    refine ⟨_, rfl, p.mo, CM, dx, _, .int m.ser, rfl, ho, TM.cl, TM.n_serial, fM_serial .., ?_⟩
    refine ⟨_, rfl, p.mo, CM, dx, _, .int m.ser, rfl, ho, TM.cl, TM.n_serial, fM_serial .., m.ser, 1, rfl, rfl, dx, _, ho, fM_len .., ?_⟩
    rw [fM_put_serial]
    obtain ⟨M1, k1, f1⟩ := M.own ho (m.ser + 1) nv co
    have ha1 := f1.1 _ _ ha
    generalize upd H p.mo (.ins CM dx (fM p.fv p.ho (m.ser + 1) p.sa nv p.ea p.na co)) = H1 at M1 k1 f1 ha1 ⊢
    refine ⟨_, rfl, _, rfl, _, rfl, y, wv, os, ws, us, rfl, hy.keep f1, hws.keep f1, hop, hl, fun t H2 s2 ht => ⟨_, rfl, by show 4 ≤ sizeLine; decide, fun u hu => ?_⟩⟩
    have s3 := same_new hu (.tup [.str "later", z, .ref t, .int m.ser])
    refine q _ _ ((k1.trans (KeepM.same s2)).trans (KeepM.same s3)) (by rw [← hsr]; exact (M1.same s2).same s3) ?_
    rw [← hsr]
    exact at_tup upd_same (ats_cons (at_str' (by decide +kernel)) (ats_cons (((hz.keep f1).keep (fr_same s2)).keep (fr_same s3)) (ats_cons (ws_of (s3 _ _ ht)) (ats_cons rfl ats_nil))))
  | @cp c i os _ us _ hop hl =>
    obtain ⟨a, xs, rfl, ha, x, ys, rfl, ⟨rfl, _⟩, y, zs, rfl, hy, z, ts, rfl, hz, hn⟩ := hat
    cases (show y = .int i from hy)
    have e : cpW c ≠ "later" := by cases c <;> decide +kernel
    refine ⟨_, rfl, a, _, 0, _, rfl, rfl, SqT.of ha, at0 _ _, rfl, _, rfl, ?_⟩
    show if (!decide (V.str (cpW c) = V.str "later")) = true then _ else _
    rw [wne e]
    refine iteT ?_
    refine ⟨_, rfl, a, _, 0, _, rfl, rfl, SqT.of ha, at0 _ _, _, rfl, a, _, 1, _, rfl, rfl, SqT.of ha, at1 _ _ _, _, rfl, a, _, 2, _, rfl, rfl, SqT.of ha, at2 _ _ _ _, _, rfl, z, wv, os, ws, us, rfl, hz, hws, hop, hl, fun t H2 s2 ht => ⟨by show 3 ≤ sizeLine; decide, fun u hu => ?_⟩⟩
    have s3 := same_new hu (.tup [.str (cpW c), .int i, .ref t])
    refine q _ _ ((KeepM.same s2).trans (KeepM.same s3)) (by rw [← hsr]; exact (M.same s2).same s3) ?_
    rw [cpC_D]
    exact at_tup upd_same (ats_cons (at_str' (by cases c <;> decide +kernel)) (ats_cons rfl (ats_cons (ws_of (s3 _ _ ht)) ats_nil)))
end
end Toy

set_option Elab.async false
set_option linter.all false
set_option maxRecDepth 100000
set_option maxHeartbeats 4000000
/-! Part H: evaluating, word by word. -/
namespace Toy
open PySem L2
open PyProof.Rows (envOfC)
section
variable {P : Program} {w : World} {K : PySem.W.Frag} {mg : Str → Option Value} {base : Heap} {CM CH : Addr}
/-- a body with this word is evaluated -/
def spEv (K : PySem.W.Frag) (CM CH : Addr) (z : Wd) : Sp := fun vs H Q _ => ∃ (p : Pl) (m m' : Mc) (nv bv wv : V) (co : Int) (r : List Dd) (ws : List Int) (n : Nw), vs = [.ref p.mo, bv, wv] ∧ MkAt CM CH H p m nv co ∧ (Dd.tup (.str z.str :: r)).At F0 H bv ∧ (wsD ws).At F0 H wv ∧ EvS z r ws m n m' ∧ m.small ∧
  ∀ (v' : V) (H' : Hp), KeepM p H H' → MkAt CM CH H' p m' nv co → NwAt K H' n v' → Q v' H'
def spEvC (K : PySem.W.Frag) (CM CH : Addr) : Sp := fun vs H Q E => ∃ c : Bool, spEv K CM CH (.ch c) vs H Q E
theorem drop_at {α : Type} {l : List α} {i : Nat} {q : α} (h : l[i]? = some q) : l.drop i = q :: l.drop (i + 1) := by
  obtain ⟨h1, h2⟩ := List.getElem?_eq_some_iff.mp h
  rw [← h2]
  exact List.drop_eq_getElem_cons h1
theorem MbsS.head {k : Dd} {ks : List Dd} {ws : List Int} {s s' : Int} {c : Cl} {cs : List Cl} (h : MbsS (k :: ks) ws s (c :: cs) s') : ∃ sj, MbS k ws s c sj ∧ MbsS ks ws sj cs s' := by
  cases h with
  | cons h1 h2 => exact ⟨_, h1, h2⟩
/-- a list with one more -/
theorem stk_len {CM CH : Addr} {H : Hp} {p : Pl} {m : Mc} {nv : V} {co : Int} (M : MkAt CM CH H p m nv co) (hs : m.small) : ∃ xs, H p.sa = some (.lst xs) ∧ xs.length < sizeLine := by
  obtain ⟨xs, h1, h2⟩ := M.s
  have := ats_len h2
  rw [List.length_map] at this
  have h3 := hs.s
  exact ⟨xs, h1, szl (by omega)⟩
theorem evs_len {CM CH : Addr} {H : Hp} {p : Pl} {m : Mc} {nv : V} {co : Int} (M : MkAt CM CH H p m nv co) (hs : m.small) : ∃ xs, H p.ea = some (.lst xs) ∧ xs.length < sizeLine := by
  obtain ⟨xs, h1, h2⟩ := M.e
  have := ats_len h2
  rw [List.length_map] at this
  have h3 := hs.e
  exact ⟨xs, h1, szl (by omega)⟩
abbrev sEvGive : Stmt := topS 19
theorem scEvGive : FnScope ["machine", "body", "words"] ["machine", "body", "words"] (defScope sEvGive) := ⟨rfl, rfl, rfl, by decide +kernel, rfl, by decide +kernel, by decide +kernel⟩
theorem c_evaluate_give {f : Addr} {fd : FuncData} (TM : TxtMk K CM) (cword_of : C8.Cal P w K mg base 1 "word_of" spWordOf []) (F : Fun K "_evaluate_give" "_evaluate_give" sEvGive f fd) (b : Binds K fd ["machine", "body", "words"] []) (hm : mg "_evaluate_give" = some (.ref f)) : C8.Cal P w K mg base 4 "_evaluate_give" (spEv K CM CH .give) [] := by
  refine cal_of F hm b scEvGive (fun vs H Q E h => ?_) (fun cdv A outer s H vs Q E hr h => ?_)
  · obtain ⟨p, m, m', nv, bv, wv, co, r, ws, n, rfl, _⟩ := h
    rfl
  obtain ⟨p, m, m', nv, bv, wv, co, r, ws, n, rfl, M, hat, hws, hev, hsm, q⟩ := h
  refine ⟨_, (pss_one (ps_ret (pe_tup (pa_cons pe_str (pa_cons (C8.pe_c cword_of hr (by decide) rfl (pa_cons (pe_ix ix_tup (pv 1) pe_int (fun _ _ => rfl)) (pa_cons (pv 2) pa_nil))) pa_nil))))), ?_⟩
  obtain ⟨a, ys, rfl, ha, hs⟩ := head_at hat
  obtain ⟨dx, ho⟩ := M.o
  obtain ⟨⟨dy, hho⟩, _⟩ := id M.h
  obtain ⟨wa, rfl, hwa⟩ := ws_at hws
  cases hev with
  | @give o1 _ _ x hop =>
    obtain ⟨y1, zs, rfl, hy1, hn⟩ := hs
    refine ⟨_, rfl, a, _, 1, _, rfl, rfl, SqT.of ha, at1 _ _ _, _, rfl, y1, .ref wa, o1, ws, x, rfl, hy1, hws, hop, by show 2 ≤ sizeLine; decide, fun t ht => ?_⟩
    have s1 := same_new ht (.tup [.str "enter", .int x])
    exact q _ _ (KeepM.same s1) (M.same s1) (at_tup upd_same (ats_cons (at_str' (by decide +kernel)) (ats_cons rfl ats_nil)))
abbrev sEvCall : Stmt := topS 20
theorem scEvCall : FnScope ["machine", "body", "words"] ["machine", "body", "words"] (defScope sEvCall) := ⟨rfl, rfl, rfl, by decide +kernel, rfl, by decide +kernel, by decide +kernel⟩
theorem c_evaluate_call {f : Addr} {fd : FuncData} (TM : TxtMk K CM) (cword_of : C8.Cal P w K mg base 1 "word_of" spWordOf []) (c_words_of : C8.Cal P w K mg base 2 "_words_of" spWordsOf []) (F : Fun K "_evaluate_call" "_evaluate_call" sEvCall f fd) (b : Binds K fd ["machine", "body", "words"] []) (hm : mg "_evaluate_call" = some (.ref f)) : C8.Cal P w K mg base 4 "_evaluate_call" (spEv K CM CH .call) [] := by
  refine cal_of F hm b scEvCall (fun vs H Q E h => ?_) (fun cdv A outer s H vs Q E hr h => ?_)
  · obtain ⟨p, m, m', nv, bv, wv, co, r, ws, n, rfl, _⟩ := h
    rfl
  obtain ⟨p, m, m', nv, bv, wv, co, r, ws, n, rfl, M, hat, hws, hev, hsm, q⟩ := h
  refine ⟨_, (pss_cons (ps_expr (pe_bm PySem.F.plainAttrs_list PySem.F.slot_list_append PySem.F.type_list_append mt_append (pe_fld (pv 0) rfl) (pa_cons (pe_tup (pa_cons pe_str (pa_cons (C8.pe_c c_words_of hr (by decide) rfl (pa_cons (pe_ix ix_tup (pv 1) pe_int (fun _ _ => rfl)) (pa_cons (pv 2) pa_nil))) pa_nil))) pa_nil)))
    (pss_one (ps_ret (pe_tup (pa_cons pe_str (pa_cons (C8.pe_c cword_of hr (by decide) rfl (pa_cons (pe_ix ix_tup (pv 1) pe_int (fun _ _ => rfl)) (pa_cons (pv 2) pa_nil))) pa_nil)))))), ?_⟩
  obtain ⟨a, ys, rfl, ha, hs⟩ := head_at hat
  obtain ⟨dx, ho⟩ := M.o
  obtain ⟨⟨dy, hho⟩, _⟩ := id M.h
  obtain ⟨wa, rfl, hwa⟩ := ws_at hws
  cases hev with
  | @call o1 os _ us _ x hop hops hl =>
    obtain ⟨y1, zs, rfl, hy1, y2, zs2, rfl, hy2, hn⟩ := hs
    obtain ⟨ss, hss, hsz⟩ := stk_len M hsm
    refine ⟨_, rfl, p.mo, CM, dx, _, .ref p.sa, rfl, ho, TM.cl, TM.n_stack, fM_stack .., .inl ⟨rfl, _, SqL.of hss⟩, _, rfl, a, _, 2, _, rfl, rfl, SqT.of ha, at2 _ _ _ _, _, rfl, y2, .ref wa, os, ws, us, rfl, hy2, hws, hops, hl, fun t1 H1 s1 ht1 => ⟨by show 2 ≤ sizeLine; decide, fun t2 ht2 => ?_⟩⟩
    have s2 := same_new ht2 (.tup [.str "apply", .ref t1])
    have s12 := sameT s1 s2
    have hv : (Fm.apply us).D.At F0 (upd H1 t2 (.tup [.str "apply", .ref t1])) (.ref t2) := at_tup upd_same (ats_cons (at_str' (by decide +kernel)) (ats_cons (ws_of (s2 _ _ ht1)) ats_nil))
    generalize upd H1 t2 (.tup [.str "apply", .ref t1]) = H2 at s2 s12 hv ⊢
    refine ⟨p.sa, _, _, rfl, rfl, s12 _ _ hss, hsz, ?_⟩
    obtain ⟨M3, k3, f3⟩ := (M.same s12).push (s12 _ _ hss) hv
    generalize upd H2 p.sa (.lst (ss ++ [.ref t2])) = H3 at M3 k3 f3 ⊢
    have fA : Fr F0 H H3 := (fr_same s12).trans f3
    refine ⟨_, rfl, a, _, 1, _, rfl, rfl, SqT.of (fA.1 _ _ ha), at1 _ _ _, _, rfl, y1, .ref wa, o1, ws, x, rfl, hy1.keep fA, hws.keep fA, hop, by show 2 ≤ sizeLine; decide, fun t ht => ?_⟩
    have s4 := same_new ht (.tup [.str "enter", .int x])
    exact q _ _ (((KeepM.same s12).trans k3).trans (KeepM.same s4)) (M3.same s4) (at_tup upd_same (ats_cons (at_str' (by decide +kernel)) (ats_cons rfl ats_nil)))
abbrev sEvCon : Stmt := topS 21
theorem scEvCon : FnScope ["machine", "body", "words"] ["machine", "body", "words"] (defScope sEvCon) := ⟨rfl, rfl, rfl, by decide +kernel, rfl, by decide +kernel, by decide +kernel⟩
theorem c_evaluate_con {f : Addr} {fd : FuncData} (TM : TxtMk K CM) (c_words_of : C8.Cal P w K mg base 2 "_words_of" spWordsOf []) (cmake : C8.Met P w K mg base 2 CH "make" (spMake CH) []) (F : Fun K "_evaluate_con" "_evaluate_con" sEvCon f fd) (b : Binds K fd ["machine", "body", "words"] []) (hm : mg "_evaluate_con" = some (.ref f)) : C8.Cal P w K mg base 4 "_evaluate_con" (spEv K CM CH .con) [] := by
  refine cal_of F hm b scEvCon (fun vs H Q E h => ?_) (fun cdv A outer s H vs Q E hr h => ?_)
  · obtain ⟨p, m, m', nv, bv, wv, co, r, ws, n, rfl, _⟩ := h
    rfl
  obtain ⟨p, m, m', nv, bv, wv, co, r, ws, n, rfl, M, hat, hws, hev, hsm, q⟩ := h
  refine ⟨_, (pss_one (ps_ret (pe_tup (pa_cons pe_str (pa_cons (pe_op op_mul pe_int (C8.pe_mt cmake hr (by decide) (pe_fld (pv 0) rfl) (pa_cons (pe_tup (pa_cons pe_str (pa_cons (pe_ix ix_tup (pv 1) pe_int (fun _ _ => rfl)) (pa_cons (C8.pe_c c_words_of hr (by decide) rfl (pa_cons (pe_ix ix_tup (pv 1) pe_int (fun _ _ => rfl)) (pa_cons (pv 2) pa_nil))) pa_nil)))) pa_nil))) pa_nil))))), ?_⟩
  obtain ⟨a, ys, rfl, ha, hs⟩ := head_at hat
  obtain ⟨dx, ho⟩ := M.o
  obtain ⟨⟨dy, hho⟩, _⟩ := id M.h
  obtain ⟨wa, rfl, hwa⟩ := ws_at hws
  cases hev with
  | @con t0 os _ us _ hops hl =>
    obtain ⟨y1, zs, rfl, hy1, y2, zs2, rfl, hy2, hn⟩ := hs
    cases (show y1 = .int t0 from hy1)
    refine ⟨_, rfl, p.mo, CM, dx, _, .ref p.ho, rfl, ho, TM.cl, TM.n_heap, fM_heap .., p.ho, dy, _, rfl, hho, fldH_no_make .., _, rfl, a, _, 1, _, rfl, rfl, SqT.of ha, at1 _ _ _, _, rfl, a, _, 2, _, rfl, rfl, SqT.of ha, at2 _ _ _ _, _, rfl, y2, .ref wa, os, ws, us, rfl, hy2, hws, hops, hl, fun t1 H1 s1 ht1 => ⟨by show 3 ≤ sizeLine; decide, fun t2 ht2 => ?_⟩⟩
    have s2 := same_new ht2 (.tup [.str "con", .int t0, .ref t1])
    have s12 := sameT s1 s2
    have hv : (Cl.con t0 us).D.At F0 (upd H1 t2 (.tup [.str "con", .int t0, .ref t1])) (.ref t2) := at_tup upd_same (ats_cons (at_str' (by decide +kernel)) (ats_cons rfl (ats_cons (ws_of (s2 _ _ ht1)) ats_nil)))
    generalize upd H1 t2 (.tup [.str "con", .int t0, .ref t1]) = H2 at s2 s12 hv ⊢
    have M2 := M.same s12
    refine ⟨p, m.cs, _, .con t0 us, rfl, M2.h, M2.ok.2.2.2.2.2.1, hv, Nat.le_trans hsm.c (by decide), fun H3 k3 h3 => ?_⟩
    obtain ⟨M3, km3, f3⟩ := M2.cells h3 k3
    refine ⟨_, _, rfl, rfl, .inl ⟨by decide, by decide⟩, by show 2 ≤ sizeLine; decide, fun t ht => ?_⟩
    have s4 := same_new ht (.tup [.str "value", .int (2 * (m.cs.length : Int))])
    exact q _ _ (((KeepM.same s12).trans km3).trans (KeepM.same s4)) (M3.same s4) (at_tup upd_same (ats_cons (at_str' (by decide +kernel)) (ats_cons rfl ats_nil)))
abbrev sEvPrim : Stmt := topS 22
theorem scEvPrim : FnScope ["machine", "body", "words", "_", "sign", "one", "other"] ["machine", "body", "words"] (defScope sEvPrim) := ⟨rfl, rfl, rfl, by decide +kernel, rfl, by decide +kernel, by decide +kernel⟩
theorem c_evaluate_prim {f : Addr} {fd : FuncData} (TM : TxtMk K CM) (cword_of : C8.Cal P w K mg base 1 "word_of" spWordOf []) (F : Fun K "_evaluate_prim" "_evaluate_prim" sEvPrim f fd) (b : Binds K fd ["machine", "body", "words"] []) (hm : mg "_evaluate_prim" = some (.ref f)) : C8.Cal P w K mg base 4 "_evaluate_prim" (spEv K CM CH .prim) [] := by
  refine cal_of F hm b scEvPrim (fun vs H Q E h => ?_) (fun cdv A outer s H vs Q E hr h => ?_)
  · obtain ⟨p, m, m', nv, bv, wv, co, r, ws, n, rfl, _⟩ := h
    rfl
  obtain ⟨p, m, m', nv, bv, wv, co, r, ws, n, rfl, M, hat, hws, hev, hsm, q⟩ := h
  refine ⟨_, (pss_cons (ps_asg (pv 1) (pg_tup rfl (pgs_cons (pg_name (i := 3) scEvPrim.nd rfl (Or.inl rfl)) (pgs_cons (pg_name (i := 4) scEvPrim.nd rfl (Or.inl rfl)) (pgs_cons (pg_name (i := 5) scEvPrim.nd rfl (Or.inl rfl)) (pgs_cons (pg_name (i := 6) scEvPrim.nd rfl (Or.inl rfl)) pgs_nil))))))
    (pss_cons (ps_expr (pe_bm PySem.F.plainAttrs_list PySem.F.slot_list_append PySem.F.type_list_append mt_append (pe_fld (pv 0) rfl) (pa_cons (pe_tup (pa_cons pe_str (pa_cons (pv 4) (pa_cons (pv 6) (pa_cons (pv 2) pa_nil))))) pa_nil)))
    (pss_one (ps_ret (pe_tup (pa_cons pe_str (pa_cons (C8.pe_c cword_of hr (by decide) rfl (pa_cons (pv 5) (pa_cons (pv 2) pa_nil))) pa_nil))))))), ?_⟩
  obtain ⟨a, ys, rfl, ha, hs⟩ := head_at hat
  obtain ⟨dx, ho⟩ := M.o
  obtain ⟨⟨dy, hho⟩, _⟩ := id M.h
  obtain ⟨wa, rfl, hwa⟩ := ws_at hws
  cases hev with
  | @prim z o1 o2 _ _ x hop hz =>
    obtain ⟨y1, zs, rfl, ⟨rfl, _⟩, y2, zs2, rfl, hy2, y3, zs3, rfl, hy3, hn⟩ := hs
    cases (show zs3 = [] from hn)
    obtain ⟨ss, hss, hsz⟩ := stk_len M hsm
    refine ⟨_, rfl, a, _, rfl, SqT.of ha, rfl, _, _, rfl, _, _, rfl, _, _, rfl, _, _, rfl, rfl, ?_⟩
    refine ⟨_, rfl, p.mo, CM, dx, _, .ref p.sa, rfl, ho, TM.cl, TM.n_stack, fM_stack .., .inl ⟨rfl, _, SqL.of hss⟩, _, rfl, _, rfl, _, rfl, by show 4 ≤ sizeLine; decide, fun t2 ht2 => ?_⟩
    have s2 := same_new ht2 (.tup [.str "right", .str z, y3, .ref wa])
    have hv : (Fm.right z o2 ws).D.At F0 (upd H t2 (.tup [.str "right", .str z, y3, .ref wa])) (.ref t2) := at_tup upd_same (ats_cons (at_str' (by decide +kernel)) (ats_cons (at_str' hz) (ats_cons (hy3.keep (fr_same s2)) (ats_cons (ws_of (s2 _ _ hwa)) ats_nil))))
    generalize upd H t2 (.tup [.str "right", .str z, y3, .ref wa]) = H2 at s2 hv ⊢
    refine ⟨p.sa, _, _, rfl, rfl, s2 _ _ hss, hsz, ?_⟩
    obtain ⟨M3, k3, f3⟩ := (M.same s2).push (s2 _ _ hss) hv
    generalize upd H2 p.sa (.lst (ss ++ [.ref t2])) = H3 at M3 k3 f3 ⊢
    have fA : Fr F0 H H3 := (fr_same s2).trans f3
    refine ⟨_, rfl, _, rfl, y2, .ref wa, o1, ws, x, rfl, hy2.keep fA, hws.keep fA, hop, by show 2 ≤ sizeLine; decide, fun t ht => ?_⟩
    have s4 := same_new ht (.tup [.str "enter", .int x])
    exact q _ _ (((KeepM.same s2).trans k3).trans (KeepM.same s4)) (M3.same s4) (at_tup upd_same (ats_cons (at_str' (by decide +kernel)) (ats_cons rfl ats_nil)))
abbrev sEvSeq : Stmt := topS 24
theorem scEvSeq : FnScope ["machine", "body", "words"] ["machine", "body", "words"] (defScope sEvSeq) := ⟨rfl, rfl, rfl, by decide +kernel, rfl, by decide +kernel, by decide +kernel⟩
theorem c_evaluate_seq {f : Addr} {fd : FuncData} (TM : TxtMk K CM)  (F : Fun K "_evaluate_seq" "_evaluate_seq" sEvSeq f fd) (b : Binds K fd ["machine", "body", "words"] []) (hm : mg "_evaluate_seq" = some (.ref f)) : C8.Cal P w K mg base 4 "_evaluate_seq" (spEv K CM CH .seq) [] := by
  refine cal_of F hm b scEvSeq (fun vs H Q E h => ?_) (fun cdv A outer s H vs Q E hr h => ?_)
  · obtain ⟨p, m, m', nv, bv, wv, co, r, ws, n, rfl, _⟩ := h
    rfl
  obtain ⟨p, m, m', nv, bv, wv, co, r, ws, n, rfl, M, hat, hws, hev, hsm, q⟩ := h
  refine ⟨_, (pss_cons (ps_expr (pe_bm PySem.F.plainAttrs_list PySem.F.slot_list_append PySem.F.type_list_append mt_append (pe_fld (pv 0) rfl) (pa_cons (pe_tup (pa_cons pe_str (pa_cons (pe_ix ix_tup (pv 1) pe_int (fun _ _ => rfl)) (pa_cons (pv 2) pa_nil)))) pa_nil)))
    (pss_one (ps_ret (pe_tup (pa_cons pe_str (pa_cons (pe_ix ix_tup (pv 1) pe_int (fun _ _ => rfl)) (pa_cons (pv 2) pa_nil))))))), ?_⟩
  obtain ⟨a, ys, rfl, ha, hs⟩ := head_at hat
  obtain ⟨dx, ho⟩ := M.o
  obtain ⟨⟨dy, hho⟩, _⟩ := id M.h
  obtain ⟨wa, rfl, hwa⟩ := ws_at hws
  cases hev with
  | @seq a1 b1 _ _ =>
    obtain ⟨y1, zs, rfl, hy1, y2, zs2, rfl, hy2, hn⟩ := hs
    obtain ⟨ss, hss, hsz⟩ := stk_len M hsm
    refine ⟨_, rfl, p.mo, CM, dx, _, .ref p.sa, rfl, ho, TM.cl, TM.n_stack, fM_stack .., .inl ⟨rfl, _, SqL.of hss⟩, _, rfl, a, _, 2, _, rfl, rfl, SqT.of ha, at2 _ _ _ _, _, rfl, by show 3 ≤ sizeLine; decide, fun t2 ht2 => ?_⟩
    have s2 := same_new ht2 (.tup [.str "seq", y2, .ref wa])
    have hv : (Fm.seq b1 ws).D.At F0 (upd H t2 (.tup [.str "seq", y2, .ref wa])) (.ref t2) := at_tup upd_same (ats_cons (at_str' (by decide +kernel)) (ats_cons (hy2.keep (fr_same s2)) (ats_cons (ws_of (s2 _ _ hwa)) ats_nil)))
    generalize upd H t2 (.tup [.str "seq", y2, .ref wa]) = H2 at s2 hv ⊢
    refine ⟨p.sa, _, _, rfl, rfl, s2 _ _ hss, hsz, ?_⟩
    obtain ⟨M3, k3, f3⟩ := (M.same s2).push (s2 _ _ hss) hv
    generalize upd H2 p.sa (.lst (ss ++ [.ref t2])) = H3 at M3 k3 f3 ⊢
    have fA : Fr F0 H H3 := (fr_same s2).trans f3
    refine ⟨_, rfl, a, _, 1, _, rfl, rfl, SqT.of (fA.1 _ _ ha), at1 _ _ _, _, rfl, by show 3 ≤ sizeLine; decide, fun t ht => ?_⟩
    have s4 := same_new ht (.tup [.str "eval", y1, .ref wa])
    exact q _ _ (((KeepM.same s2).trans k3).trans (KeepM.same s4)) (M3.same s4) (at_tup upd_same (ats_cons (at_str' (by decide +kernel)) (ats_cons ((hy1.keep fA).keep (fr_same s4)) (ats_cons ((hws.keep fA).keep (fr_same s4)) ats_nil))))
abbrev sEvChoice : Stmt := topS 25
theorem scEvChoice : FnScope ["machine", "body", "words", "word", "first", "alternatives", "default"] ["machine", "body", "words"] (defScope sEvChoice) := ⟨rfl, rfl, rfl, by decide +kernel, rfl, by decide +kernel, by decide +kernel⟩
theorem c_evaluate_choice {f : Addr} {fd : FuncData} (TM : TxtMk K CM)  (F : Fun K "_evaluate_choice" "_evaluate_choice" sEvChoice f fd) (b : Binds K fd ["machine", "body", "words"] []) (hm : mg "_evaluate_choice" = some (.ref f)) : C8.Cal P w K mg base 4 "_evaluate_choice" (spEvC K CM CH) [] := by
  refine cal_of F hm b scEvChoice (fun vs H Q E h => ?_) (fun cdv A outer s H vs Q E hr h => ?_)
  · obtain ⟨c0, p, m, m', nv, bv, wv, co, r, ws, n, rfl, _⟩ := h
    rfl
  obtain ⟨c0, p, m, m', nv, bv, wv, co, r, ws, n, rfl, M, hat, hws, hev, hsm, q⟩ := h
  refine ⟨_, (pss_cons (ps_asg (pv 1) (pg_tup rfl (pgs_cons (pg_name (i := 3) scEvChoice.nd rfl (Or.inl rfl)) (pgs_cons (pg_name (i := 4) scEvChoice.nd rfl (Or.inl rfl)) (pgs_cons (pg_name (i := 5) scEvChoice.nd rfl (Or.inl rfl)) (pgs_cons (pg_name (i := 6) scEvChoice.nd rfl (Or.inl rfl)) pgs_nil))))))
    (pss_cons (ps_expr (pe_bm PySem.F.plainAttrs_list PySem.F.slot_list_append PySem.F.type_list_append mt_append (pe_fld (pv 0) rfl) (pa_cons (pe_tup (pa_cons (pv 3) (pa_cons (pv 5) (pa_cons (pv 6) (pa_cons (pv 2) pa_nil))))) pa_nil)))
    (pss_one (ps_ret (pe_tup (pa_cons pe_str (pa_cons (pv 4) (pa_cons (pv 2) pa_nil)))))))), ?_⟩
  obtain ⟨a, ys, rfl, ha, hs⟩ := head_at hat
  obtain ⟨dx, ho⟩ := M.o
  obtain ⟨⟨dy, hho⟩, _⟩ := id M.h
  obtain ⟨wa, rfl, hwa⟩ := ws_at hws
  cases hev with
  | @ch _ a1 d1 rows _ _ =>
    obtain ⟨y1, zs, rfl, hy1, y2, zs2, rfl, hy2, y3, zs3, rfl, hy3, hn⟩ := hs
    cases (show zs3 = [] from hn)
    obtain ⟨ss, hss, hsz⟩ := stk_len M hsm
    have hcl : (chW c0).length ≤ 1000 := by cases c0 <;> decide +kernel
    refine ⟨_, rfl, a, _, rfl, SqT.of ha, rfl, _, _, rfl, _, _, rfl, _, _, rfl, _, _, rfl, rfl, ?_⟩
    refine ⟨_, rfl, p.mo, CM, dx, _, .ref p.sa, rfl, ho, TM.cl, TM.n_stack, fM_stack .., .inl ⟨rfl, _, SqL.of hss⟩, _, rfl, _, rfl, _, rfl, _, rfl, by show 4 ≤ sizeLine; decide, fun t2 ht2 => ?_⟩
    have s2 := same_new ht2 (.tup [.str (chW c0), y2, y3, .ref wa])
    have hv : (Fm.ch c0 rows d1 ws).D.At F0 (upd H t2 (.tup [.str (chW c0), y2, y3, .ref wa])) (.ref t2) := at_tup upd_same (ats_cons (at_str' hcl) (ats_cons (hy2.keep (fr_same s2)) (ats_cons (hy3.keep (fr_same s2)) (ats_cons (ws_of (s2 _ _ hwa)) ats_nil))))
    show ∃ l x xs, _
    refine ⟨p.sa, _, _, rfl, rfl, s2 _ _ hss, hsz, ?_⟩
    obtain ⟨M3, k3, f3⟩ := (M.same s2).push (s2 _ _ hss) hv
    have fA : Fr F0 H _ := (fr_same s2).trans f3
    refine ⟨_, rfl, _, rfl, by show 3 ≤ sizeLine; decide, fun t ht => ?_⟩
    have s4 := same_new ht (.tup [.str "eval", y1, .ref wa])
    exact q _ _ (((KeepM.same s2).trans k3).trans (KeepM.same s4)) (M3.same s4) (at_tup upd_same (ats_cons (at_str' (by decide +kernel)) (ats_cons ((hy1.keep fA).keep (fr_same s4)) (ats_cons ((hws.keep fA).keep (fr_same s4)) ats_nil))))
abbrev sEvNote : Stmt := topS 26
theorem scEvNote : FnScope ["machine", "body", "words"] ["machine", "body", "words"] (defScope sEvNote) := ⟨rfl, rfl, rfl, by decide +kernel, rfl, by decide +kernel, by decide +kernel⟩
theorem c_evaluate_note {f : Addr} {fd : FuncData} (TM : TxtMk K CM)  (F : Fun K "_evaluate_note" "_evaluate_note" sEvNote f fd) (b : Binds K fd ["machine", "body", "words"] []) (hm : mg "_evaluate_note" = some (.ref f)) : C8.Cal P w K mg base 4 "_evaluate_note" (spEv K CM CH .note) [] := by
  refine cal_of F hm b scEvNote (fun vs H Q E h => ?_) (fun cdv A outer s H vs Q E hr h => ?_)
  · obtain ⟨p, m, m', nv, bv, wv, co, r, ws, n, rfl, _⟩ := h
    rfl
  obtain ⟨p, m, m', nv, bv, wv, co, r, ws, n, rfl, M, hat, hws, hev, hsm, q⟩ := h
  refine ⟨_, (pss_cons (ps_expr (pe_bm PySem.F.plainAttrs_list PySem.F.slot_list_append PySem.F.type_list_append mt_append (pe_fld (pv 0) rfl) (pa_cons (pe_tup (pa_cons pe_str (pa_cons (pe_ix ix_tup (pv 1) pe_int (fun _ _ => rfl)) pa_nil))) pa_nil)))
    (pss_one (ps_ret (pe_tup (pa_cons pe_str (pa_cons (pe_ix ix_tup (pv 1) pe_int (fun _ _ => rfl)) (pa_cons (pv 2) pa_nil))))))), ?_⟩
  obtain ⟨a, ys, rfl, ha, hs⟩ := head_at hat
  obtain ⟨dx, ho⟩ := M.o
  obtain ⟨⟨dy, hho⟩, _⟩ := id M.h
  obtain ⟨wa, rfl, hwa⟩ := ws_at hws
  cases hev with
  | @note i b1 _ _ =>
    obtain ⟨y1, zs, rfl, hy1, y2, zs2, rfl, hy2, hn⟩ := hs
    cases (show y1 = .int i from hy1)
    obtain ⟨ss, hss, hsz⟩ := evs_len M hsm
    refine ⟨_, rfl, p.mo, CM, dx, _, .ref p.ea, rfl, ho, TM.cl, TM.n_events, fM_events .., .inl ⟨rfl, _, SqL.of hss⟩, _, rfl, a, _, 1, _, rfl, rfl, SqT.of ha, at1 _ _ _, by show 2 ≤ sizeLine; decide, fun t2 ht2 => ?_⟩
    have s2 := same_new ht2 (.tup [.str "note", .int i])
    have hv : (Ev.note i).D.At F0 (upd H t2 (.tup [.str "note", .int i])) (.ref t2) := at_tup upd_same (ats_cons (at_str' (by decide +kernel)) (ats_cons rfl ats_nil))
    generalize upd H t2 (.tup [.str "note", .int i]) = H2 at s2 hv ⊢
    refine ⟨p.ea, _, _, rfl, rfl, s2 _ _ hss, hsz, ?_⟩
    obtain ⟨M3, k3, f3⟩ := (M.same s2).tell (s2 _ _ hss) hv
    generalize upd H2 p.ea (.lst (ss ++ [.ref t2])) = H3 at M3 k3 f3 ⊢
    have fA : Fr F0 H H3 := (fr_same s2).trans f3
    refine ⟨_, rfl, a, _, 2, _, rfl, rfl, SqT.of (fA.1 _ _ ha), at2 _ _ _ _, _, rfl, by show 3 ≤ sizeLine; decide, fun t ht => ?_⟩
    have s4 := same_new ht (.tup [.str "eval", y2, .ref wa])
    exact q _ _ (((KeepM.same s2).trans k3).trans (KeepM.same s4)) (M3.same s4) (at_tup upd_same (ats_cons (at_str' (by decide +kernel)) (ats_cons ((hy2.keep fA).keep (fr_same s4)) (ats_cons ((hws.keep fA).keep (fr_same s4)) ats_nil))))
abbrev sEvLet : Stmt := topS 23
theorem scEvLet : FnScope ["machine", "body", "words", "_", "members", "inner_body", "first", "inner_words", "member", "index"] ["machine", "body", "words"] (defScope sEvLet) := ⟨rfl, rfl, rfl, by decide +kernel, rfl, by decide +kernel, by decide +kernel⟩
theorem c_evaluate_let {f : Addr} {fd : FuncData} (TM : TxtMk K CM) (TH : TxtH K CH) (T : TxtEv mg) (cmake : C8.Met P w K mg base 2 CH "make" (spMake CH) []) (c_member_cell : C8.Cal P w K mg base 3 "_member_cell" (spMemCell CM CH) []) (F : Fun K "_evaluate_let" "_evaluate_let" sEvLet f fd) (b : Binds K fd ["machine", "body", "words"] []) (hm : mg "_evaluate_let" = some (.ref f)) : C8.Cal P w K mg base 4 "_evaluate_let" (spEv K CM CH .lt) [] := by
  refine cal_of F hm b scEvLet (fun vs H Q E h => ?_) (fun cdv A outer s H vs Q E hr h => ?_)
  · obtain ⟨p, m, m', nv, bv, wv, co, r, ws, n, rfl, _⟩ := h
    rfl
  obtain ⟨p, m, m', nv, bv, wv, co, r, ws, n, rfl, M, hat, hws, hev, hsm, q⟩ := h
  refine ⟨_, (pss_cons (ps_asg (pv 1) (pg_tup rfl (pgs_cons (pg_name (i := 3) scEvLet.nd rfl (Or.inl rfl)) (pgs_cons (pg_name (i := 4) scEvLet.nd rfl (Or.inl rfl)) (pgs_cons (pg_name (i := 5) scEvLet.nd rfl (Or.inl rfl)) pgs_nil)))))
    (pss_cons (ps_set (i := 6) scEvLet.nd rfl (Or.inr rfl) (pe_fld (pe_fld (pv 0) rfl) rfl))
    (pss_cons (ps_set (i := 7) scEvLet.nd rfl (Or.inl rfl) (pe_tup (StX.pa_star (pv 2) (StX.pa_star (pe_lc (own := [("index", 9)]) (g := gName 9) (tt := tYes) rfl scEvLet.nd (pi_range1 rfl T.zrange (pa_cons (pe_callB call_len_seq rfl T.zlen PySem.boot_len (pa_cons (pv 4) pa_nil)) pa_nil)) (blkOk_by (own := [("index", 9)]) (N := ["machine", "body", "words", "_", "members", "inner_body", "first", "inner_words", "member", "index"]) (sc := defScope sEvLet) (by decide +kernel)) (fun _ _ _ _ _ => (pg_name (i := 9) scEvLet.nd rfl (Or.inl rfl))) (fun _ _ _ _ _ => pts_nil) (fun _ _ _ _ _ => (pe_op op_mul pe_int (pe_op op_add (pv 6) (pv 9))))) pa_nil))))
    (pss_cons (ps_for PassesOwn.never rfl (pi_tup (pv 4)) (pg_name (i := 8) scEvLet.nd rfl (Or.inl rfl))
      (pss_one (ps_expr (C8.pe_mt cmake hr (by decide) (pe_fld (pv 0) rfl) (pa_cons (C8.pe_c c_member_cell hr (by decide) rfl (pa_cons (pv 0) (pa_cons (pv 8) (pa_cons (pv 7) pa_nil)))) pa_nil)))))
    (pss_one (ps_ret (pe_tup (pa_cons pe_str (pa_cons (pv 5) (pa_cons (pv 7) pa_nil)))))))))), ?_⟩
  obtain ⟨a, ys, rfl, ha, hs⟩ := head_at hat
  obtain ⟨dx, ho⟩ := M.o
  obtain ⟨⟨dy, hho⟩, _⟩ := id M.h
  obtain ⟨wa, rfl, hwa⟩ := ws_at hws
  cases hev with
  | @lt ms b1 _ _ cl s' hmb hl hwl =>
    obtain ⟨y1, zs, rfl, ⟨oa, oxs, rfl, hoa, hos⟩, y2, zs2, rfl, hy2, hn⟩ := hs
    cases (show zs2 = [] from hn)
    have hol := ats_len hos
    refine ⟨_, rfl, a, _, rfl, SqT.of ha, rfl, _, _, rfl, _, _, rfl, _, _, rfl, rfl, ?_⟩
    refine ⟨_, rfl, p.mo, CM, dx, _, .ref p.ho, rfl, ho, TM.cl, TM.n_heap, fM_heap .., p.ho, CH, dy, _, .int (m.cs.length : Int), rfl, hho, TH.cl, TH.nN, fldH_next .., ?_⟩
    refine ⟨_, rfl, wa, _, rfl, .inl (SqT.of hwa), _, rfl, oa, _, rfl, .inr (SqT.of hoa), (ms.length : Int), (by rw [hol]), by omega, by omega, fun D hD => ?_⟩
    have lsn : ∀ i, lets m.cs.length (i + 1) = lets m.cs.length i ++ [2 * ((m.cs.length : Int) + (i : Int))] := fun i => by
      unfold lets
      rw [List.range_succ, List.map_append]
      rfl
    have lsl : ∀ i, (lets m.cs.length i).length = i := fun i => by
      unfold lets
      rw [List.length_map, List.length_range]
    refine lc_range (Pv := fun i G => Same H G ∧ G D = some (.lst ((lets m.cs.length i).map V.int))) ⟨same_new hD _, upd_same⟩ ?_ ?_
    · rintro i G hi ⟨h1, h2⟩
      refine ⟨rfl, ?_⟩
      refine tYes_if ?_
      refine ⟨_, rfl, _, rfl, _, _, rfl, rfl, _, _, rfl, rfl, .inl ⟨by decide, by decide⟩, _, h2, ?_, same_upd hD h1 _, ?_⟩
      · rw [List.length_map, lsl]
        exact szl (by omega)
      · rw [upd_same, lsn, List.map_append, show 0 + (i : Int) = (i : Int) by omega]
        rfl
    rintro G1 ⟨s1, hG1⟩
    rw [show ((ms.length : Int)).toNat = ms.length by omega] at hG1
    refine ⟨D, _, rfl, .inr (SqL.of hG1), ?_, fun pt hpt => ?_⟩
    · rw [List.append_nil, List.length_append, List.length_map, List.length_map, lsl]
      exact Nat.le_of_lt (szl (by omega))
    rw [List.append_nil, ← List.map_append]
    have s2 := same_new hpt (.tup ((ws ++ lets m.cs.length ms.length).map V.int))
    have hpt2 : upd G1 pt (.tup ((ws ++ lets m.cs.length ms.length).map V.int)) pt = some (.tup ((ws ++ lets m.cs.length ms.length).map V.int)) := upd_same
    have s12 := sameT s1 s2
    generalize upd G1 pt (.tup ((ws ++ lets m.cs.length ms.length).map V.int)) = G2 at s2 hpt2 s12 ⊢
    generalize hwz : ws ++ lets m.cs.length ms.length = wz at *
    have hwzl : True := trivial
    have hoa2 := s12 _ _ hoa
    refine ⟨_, rfl, oa, rfl, ⟨oxs, SqT.of hoa2⟩, for_tup (fun i σ G => ∃ (v8 : Option V) (si : Int), σ = [some (.ref p.mo), some (.ref a), some (.ref wa), some (.str Wd.lt.str), some (.ref oa), some y2, some (.int (m.cs.length : Int)), some (.ref pt), v8, none] ∧ KeepM p G2 G ∧ MkAt CM CH G p { m with cs := m.cs ++ cl.take i, ser := si } nv co ∧ MbsS (ms.drop i) wz si (cl.drop i) s')
      ⟨_, m.ser, rfl, KeepM.refl, by rw [List.take_zero, List.append_nil]; exact M.same s12, hmb⟩ (fun i σ G _ ⟨v8, si, e, kG, MG, hb⟩ => SqT.of (((M.same s12).fr kG).1 _ _ hoa2)) ?_ ?_⟩
    · rintro i x σ G hx ⟨v8, si, rfl, kG, MG, hb⟩
      obtain ⟨k, hk, hkat⟩ := ats_get hos hx
      have hil : i < ms.length := (List.getElem?_eq_some_iff.mp hk).1
      have hcl := hmb.len
      have hci : cl[i]? = some cl[i] := List.getElem?_eq_getElem (by omega)
      generalize cl[i] = c1 at hci
      have fG := (M.same s12).fr kG
      have hkG := (hkat.keep (fr_same s12)).keep fG
      rw [drop_at hk, drop_at hci] at hb
      obtain ⟨dxG, hoG⟩ := MG.o
      obtain ⟨⟨dyG, hhG⟩, _⟩ := id MG.h
      obtain ⟨sj, hb1, hb2⟩ := hb.head
      refine ⟨_, rfl, p.mo, CM, dxG, _, .ref p.ho, rfl, hoG, TM.cl, TM.n_heap, fM_heap .., p.ho, dyG, _, rfl, hhG, fldH_no_make .., _, rfl, _, rfl, _, rfl, p, _, nv, x, .ref pt, co, sj, k, wz, c1, rfl, MG, hkG, ws_of (fG.1 _ _ hpt2), hb1, fun v' G3 k3 M3 hv3 => ?_⟩
      refine ⟨p, _, v', c1, rfl, M3.h, M3.ok.2.2.2.2.2.1, hv3, ?_, fun G4 k4 h4 => ?_⟩
      · have := hsm.c
        show (m.cs ++ cl.take i).length ≤ 95000
        rw [List.length_append, List.length_take]
        omega
      · obtain ⟨M4, km4, f4⟩ := M3.cells h4 k4
        refine ⟨_, sj, rfl, (kG.trans k3).trans km4, ?_, hb2⟩
        rw [take_snoc hci, ← List.append_assoc]
        exact M4
    · rintro σ G ⟨v8, si, rfl, kG, MG, hb⟩
      have hcl := hmb.len
      rw [hol, List.drop_of_length_le (Nat.le_refl _), show cl.drop ms.length = [] from List.drop_of_length_le (by omega)] at hb
      have hsi : si = s' := by cases hb; rfl
      subst hsi
      rw [show cl.take oxs.length = cl from List.take_of_length_le (by omega)] at MG
      have fG := (M.same s12).fr kG
      refine ⟨_, rfl, _, rfl, by show 3 ≤ sizeLine; decide, fun t ht => ?_⟩
      have s4 := same_new ht (.tup [.str "eval", y2, .ref pt])
      refine q _ _ (((KeepM.same s12).trans kG).trans (KeepM.same s4)) (MG.same s4) ?_
      exact at_tup upd_same (ats_cons (at_str' (by decide +kernel)) (ats_cons (((hy2.keep (fr_same s12)).keep fG).keep (fr_same s4)) (ats_cons ((ws_of (fG.1 _ _ hpt2)).keep (fr_same s4)) ats_nil)))
end
end Toy

set_option Elab.async false
set_option linter.all false
set_option maxRecDepth 100000
set_option maxHeartbeats 4000000
/-! Part MS: the program's machine: prims. -/
namespace L2
open PySem PySem.Spec PyProof.Rows
section
variable {X : Cx}
def CDivX (_ j : Int) : Prop := j ≠ 0 ∧ j.natAbs.log2 < 9000
theorem op_fdivX : OpR X (binaryOp .FloorDiv) (rI CDivX fun i j => .int (i.fdiv j)) := opI fun _ _ _ _ _ _ _ hc q => floordiv_int hc.1 q (.inl (PyProof.noPylong_of_log2 hc.2))
end
end L2
namespace Toy
open PySem L2
open PyProof.Rows (envOfC)
theorem log15 {j : Int} (h0 : -1000000000000000 ≤ j) (h1 : j ≤ 1000000000000000) : j.natAbs.log2 < 9000 := by
  rcases Nat.eq_zero_or_pos j.natAbs with e | e
  · rw [e]; decide
  · exact (Nat.log2_lt (by omega)).mpr (Nat.lt_of_lt_of_le (show j.natAbs < 2 ^ 60 by omega) (Nat.pow_le_pow_right (by decide) (by decide)))
def works : List Str := ["+", "-", "*", "div", "mod"]
section
variable {P : Program} {w : World} {K : PySem.W.Frag} {mg : Str → Option Value} {base : Heap} {C aS aN aZ aO : Addr}
abbrev sHolds : Stmt := topS 35
theorem scHolds : FnScope ["sign", "one", "other"] ["sign", "one", "other"] (defScope sHolds) := ⟨rfl, rfl, rfl, by decide +kernel, rfl, by decide +kernel, by decide +kernel⟩
def spHolds : Sp := fun vs H Q _ => ∃ (s : Str) (i j : Int), vs = [.str s, .int i, .int j] ∧ s ∈ ineqs ∧ Q (.bl (holdsA s i j)) H
theorem c_holdsT {f : Addr} {fd : FuncData} (F : Fun K "_holds" "_holds" sHolds f fd) (b : Binds K fd ["sign", "one", "other"] []) (hm : mg "_holds" = some (.ref f)) : C8.Cal P w K mg base 1 "_holds" spHolds [] := by
  refine cal_of F hm b scHolds (fun vs H Q E h => ?_) (fun cdv A outer s H vs Q E hr h => ?_)
  · obtain ⟨s, i, j, rfl, _⟩ := h
    rfl
  obtain ⟨s, i, j, rfl, hs, q⟩ := h
  refine ⟨_, (pss_cons (ps_if (pt_cmpR op_eq (pv 0) pe_str (nomark _))
      (pss_one (ps_ret (pe_cmpR op_eq (pv 1) (pv 2) (nomark _))))
      pss_nil)
    (pss_cons (ps_if (pt_cmpR op_eq (pv 0) pe_str (nomark _))
      (pss_one (ps_ret (pe_cmpR op_lt (pv 1) (pv 2) (nomark _))))
      pss_nil)
    (pss_one (ps_ret (pe_cmpR op_le (pv 1) (pv 2) (nomark _)))))), ?_⟩
  have no : ∀ {z w' : Str} {A B : Prop}, z ≠ w' → B → if decide (V.str z = V.str w') = true then A else B := fun h hb => by rw [wne h]; exact iteF hb
  have yes : ∀ {z : Str} {A B : Prop}, A → if decide (V.str z = V.str z) = true then A else B := fun hb => by rw [wtt]; exact iteT hb
  simp only [ineqs, List.mem_cons, List.not_mem_nil, or_false] at hs
  rcases hs with rfl | rfl | rfl
  · refine ⟨_, rfl, rfl, _, rfl, yes ?_⟩
    have hh : holdsA "==" i j = decide (V.int i = V.int j) := by
      unfold holdsA
      rw [if_pos rfl]
      exact decide_eq_decide.mpr ⟨fun e => by rw [e], fun e => V.int.inj e⟩
    rw [hh] at q
    exact ⟨_, rfl, _, rfl, rfl, q⟩
  · refine ⟨_, rfl, rfl, _, rfl, no (by decide +kernel) ?_⟩
    refine ⟨_, rfl, rfl, _, rfl, yes ?_⟩
    have hh : holdsA "<" i j = decide (i < j) := by
      unfold holdsA
      rw [if_neg (by decide +kernel), if_pos rfl]
    rw [hh] at q
    exact ⟨_, rfl, _, rfl, _, _, rfl, rfl, q⟩
  · refine ⟨_, rfl, rfl, _, rfl, no (by decide +kernel) ?_⟩
    refine ⟨_, rfl, rfl, _, rfl, no (by decide +kernel) ?_⟩
    have hh : holdsA "<=" i j = decide (i ≤ j) := by
      unfold holdsA
      rw [if_neg (by decide +kernel), if_neg (by decide +kernel)]
    rw [hh] at q
    exact ⟨_, rfl, _, rfl, _, _, rfl, rfl, q⟩
abbrev sWorked : Stmt := topS 36
theorem scWorked : FnScope ["sign", "one", "other"] ["sign", "one", "other"] (defScope sWorked) := ⟨rfl, rfl, rfl, by decide +kernel, rfl, by decide +kernel, by decide +kernel⟩
def spWorked : Sp := fun vs H Q _ => ∃ (s : Str) (i j : Int), vs = [.str s, .int i, .int j] ∧ s ∈ works ∧ (-1000000000000000 ≤ i ∧ i ≤ 1000000000000000) ∧ (-1000000000000000 ≤ j ∧ j ≤ 1000000000000000) ∧ (s = "div" ∨ s = "mod" → j ≠ 0) ∧ Q (.int (workA s i j)) H
theorem c_worked {f : Addr} {fd : FuncData} (F : Fun K "_worked_out" "_worked_out" sWorked f fd) (b : Binds K fd ["sign", "one", "other"] []) (hm : mg "_worked_out" = some (.ref f)) : C8.Cal P w K mg base 1 "_worked_out" spWorked [] := by
  refine cal_of F hm b scWorked (fun vs H Q E h => ?_) (fun cdv A outer s H vs Q E hr h => ?_)
  · obtain ⟨s, i, j, rfl, _⟩ := h
    rfl
  obtain ⟨s, i, j, rfl, hs, ⟨hi0, hi1⟩, ⟨hj0, hj1⟩, hj, q⟩ := h
  refine ⟨_, (pss_cons (ps_if (pt_cmpR op_eq (pv 0) pe_str (nomark _))
      (pss_one (ps_ret (pe_op op_add (pv 1) (pv 2))))
      pss_nil)
    (pss_cons (ps_if (pt_cmpR op_eq (pv 0) pe_str (nomark _))
      (pss_one (ps_ret (pe_op op_sub (pv 1) (pv 2))))
      pss_nil)
    (pss_cons (ps_if (pt_cmpR op_eq (pv 0) pe_str (nomark _))
      (pss_one (ps_ret (pe_op op_mul (pv 1) (pv 2))))
      pss_nil)
    (pss_cons (ps_if (pt_cmpR op_eq (pv 0) pe_str (nomark _))
      (pss_one (ps_ret (pe_op op_fdivX (pv 1) (pv 2))))
      pss_nil)
    (pss_one (ps_ret (pe_op op_sub (pv 1) (pe_op op_mul (pv 2) (pe_op op_fdivX (pv 1) (pv 2)))))))))), ?_⟩
  have no : ∀ {z w' : Str} {A B : Prop}, z ≠ w' → B → if decide (V.str z = V.str w') = true then A else B := fun h hb => by rw [wne h]; exact iteF hb
  have yes : ∀ {z : Str} {A B : Prop}, A → if decide (V.str z = V.str z) = true then A else B := fun hb => by rw [wtt]; exact iteT hb
  simp only [works, List.mem_cons, List.not_mem_nil, or_false] at hs
  rcases hs with rfl | rfl | rfl | rfl | rfl
  · refine ⟨_, rfl, rfl, _, rfl, yes ?_⟩
    have hw : workA "+" i j = i + j := by
      unfold workA
      rw [if_pos rfl]
    rw [hw] at q
    exact ⟨_, rfl, _, rfl, _, _, rfl, rfl, q⟩
  · refine ⟨_, rfl, rfl, _, rfl, no (by decide +kernel) ?_⟩
    refine ⟨_, rfl, rfl, _, rfl, yes ?_⟩
    have hw : workA "-" i j = i - j := by
      unfold workA
      rw [if_neg (by decide +kernel), if_pos rfl]
    rw [hw] at q
    exact ⟨_, rfl, _, rfl, _, _, rfl, rfl, q⟩
  · refine ⟨_, rfl, rfl, _, rfl, no (by decide +kernel) ?_⟩
    refine ⟨_, rfl, rfl, _, rfl, no (by decide +kernel) ?_⟩
    refine ⟨_, rfl, rfl, _, rfl, yes ?_⟩
    have hw : workA "*" i j = i * j := by
      unfold workA
      rw [if_neg (by decide +kernel), if_neg (by decide +kernel), if_pos rfl]
    rw [hw] at q
    exact ⟨_, rfl, _, rfl, _, _, rfl, rfl, .inl ⟨by omega, by omega⟩, q⟩
  · refine ⟨_, rfl, rfl, _, rfl, no (by decide +kernel) ?_⟩
    refine ⟨_, rfl, rfl, _, rfl, no (by decide +kernel) ?_⟩
    refine ⟨_, rfl, rfl, _, rfl, no (by decide +kernel) ?_⟩
    refine ⟨_, rfl, rfl, _, rfl, yes ?_⟩
    have hw : workA "div" i j = i.fdiv j := by
      unfold workA
      rw [if_neg (by decide +kernel), if_neg (by decide +kernel), if_neg (by decide +kernel), if_pos rfl]
    rw [hw] at q
    exact ⟨_, rfl, _, rfl, _, _, rfl, rfl, ⟨hj (.inl rfl), log15 hj0 hj1⟩, q⟩
  · refine ⟨_, rfl, rfl, _, rfl, no (by decide +kernel) ?_⟩
    refine ⟨_, rfl, rfl, _, rfl, no (by decide +kernel) ?_⟩
    refine ⟨_, rfl, rfl, _, rfl, no (by decide +kernel) ?_⟩
    refine ⟨_, rfl, rfl, _, rfl, no (by decide +kernel) ?_⟩
    have hw : workA "mod" i j = i - j * i.fdiv j := by
      unfold workA
      rw [if_neg (by decide +kernel), if_neg (by decide +kernel), if_neg (by decide +kernel), if_neg (by decide +kernel)]
    rw [hw] at q
    exact ⟨_, rfl, _, rfl, _, rfl, _, rfl, _, _, rfl, rfl, ⟨hj (.inr rfl), log15 hj0 hj1⟩, _, _, rfl, rfl, .inl ⟨by omega, by omega⟩, _, _, rfl, rfl, q⟩
structure TxtPr (K : PySem.W.Frag) (mg : Str → Option Value) (aZ aO : Addr) : Prop where
  gBY_ZERO : ∃ u, mg "BY_ZERO" = some u ∧ RelV (.ref aZ) u
  sBY_ZERO : ∀ H, SqT K H aZ [.str "fault", .str "division by zero"]
  gOVERFLOW : ∃ u, mg "OVERFLOW" = some u ∧ RelV (.ref aO) u
  sOVERFLOW : ∀ H, SqT K H aO [.str "fault", .str "overflow"]
  gLARGEST_NUMBER : ∃ u, mg "LARGEST_NUMBER" = some u ∧ RelV (.int 1000000000000000) u
/-- what a prim gives -/
def PrAt (K : PySem.W.Frag) (H : Hp) : Pr → V → Prop
  | .tf b, v => ∃ a u, v = .ref a ∧ H a = some (.tup [.str "con", .int (if b = true then 1 else 0), .ref u]) ∧ H u = some (.tup [])
  | .num i, v => ∃ a, v = .ref a ∧ H a = some (.tup [.str "num", .int i])
  | .fault s, v => ∃ a, v = .ref a ∧ SqT K H a [.str "fault", .str s]
abbrev sPrimRes : Stmt := topS 34
theorem scPrimRes : FnScope ["sign", "one", "other", "number"] ["sign", "one", "other"] (defScope sPrimRes) := ⟨rfl, rfl, rfl, by decide +kernel, rfl, by decide +kernel, by decide +kernel⟩
def spPrimR (K : PySem.W.Frag) : Sp := fun vs H Q _ => ∃ (s : Str) (i j : Int), vs = [.str s, .int i, .int j] ∧ s ∈ signs ∧ (-1000000000000000 ≤ i ∧ i ≤ 1000000000000000) ∧ (-1000000000000000 ≤ j ∧ j ≤ 1000000000000000) ∧ ∀ (v' : V) (H' : Hp), Same H H' → PrAt K H' (primR s i j) v' → Q v' H'
theorem c_primres {f : Addr} {fd : FuncData} (T : TxtPr K mg aZ aO) (c_holds : C8.Cal P w K mg base 1 "_holds" spHolds []) (c_worked_out : C8.Cal P w K mg base 1 "_worked_out" spWorked []) (F : Fun K "prim_result" "prim_result" sPrimRes f fd) (b : Binds K fd ["sign", "one", "other"] []) (hm : mg "prim_result" = some (.ref f)) : C8.Cal P w K mg base 2 "prim_result" (spPrimR K) [] := by
  refine cal_of F hm b scPrimRes (fun vs H Q E h => ?_) (fun cdv A outer s H vs Q E hr h => ?_)
  · obtain ⟨s, i, j, rfl, _⟩ := h
    rfl
  obtain ⟨s, i, j, rfl, hs, ⟨hi0, hi1⟩, ⟨hj0, hj1⟩, q⟩ := h
  refine ⟨_, (pss_cons (ps_if (pt_cmpR op_in_seq (pv 0) (pe_tup (pa_strs (zs := ["==", "<", "<="]) rfl)) rfl)
      (pss_one (ps_ret (pe_tup (pa_cons pe_str (pa_cons (pe_ifExp (pt_val (C8.pe_c c_holds hr (by decide) rfl (pa_cons (pv 0) (pa_cons (pv 1) (pa_cons (pv 2) pa_nil))))) pe_int pe_int) (pa_cons (pe_tup pa_nil) pa_nil))))))
      pss_nil)
    (C8.pss_cut (ps_if (PW.pt (pw_and (pt_cmpR op_in_seq (pv 0) (pe_tup (pa_cons pe_str (pa_cons pe_str pa_nil))) rfl) (pw_and1 (pt_cmpR op_eq (pv 2) pe_int (nomark _)))))
      (pss_one (ps_ret (C8.pe_gc rfl T.gBY_ZERO)))
      pss_nil)
    (pss_cons (ps_set (i := 3) scPrimRes.nd rfl (Or.inl rfl) (C8.pe_c c_worked_out hr (by decide) rfl (pa_cons (pv 0) (pa_cons (pv 1) (pa_cons (pv 2) pa_nil)))))
    (pss_cons (ps_if (pt_not (pt_chain op_le op_le (pe_un un_neg (C8.pe_gc rfl T.gLARGEST_NUMBER)) (pv 3) (C8.pe_gc rfl T.gLARGEST_NUMBER)))
      (pss_one (ps_ret (C8.pe_gc rfl T.gOVERFLOW)))
      pss_nil)
    (pss_one (ps_ret (pe_tup (pa_cons pe_str (pa_cons (pv 3) pa_nil))))))))), ?_⟩
  refine ⟨_, rfl, by show 3 ≤ sizeLine; decide, fun t1 ht1 => ?_⟩
  have s1 := same_new ht1 (.tup ([("==" : Str), "<", "<="].map V.str))
  have e1 : upd H t1 (.tup ([("==" : Str), "<", "<="].map V.str)) t1 = some (.tup ([("==" : Str), "<", "<="].map V.str)) := upd_same
  refine ⟨t1, _, rfl, .inr (SqT.of e1), rfl, flat_strs _, ?_⟩
  rw [show (if false = true then !inV (.str s) ([("==" : Str), "<", "<="].map V.str) else inV (.str s) ([("==" : Str), "<", "<="].map V.str)) = decide (s ∈ ineqs) by rw [if_neg (by decide), inV_strs]; rfl]
  refine ⟨_, rfl, ?_⟩
  generalize upd H t1 (.tup ([("==" : Str), "<", "<="].map V.str)) = H1 at s1 ⊢
  have hP : primR s i j = (if s = "==" ∨ s = "<" ∨ s = "<=" then .tf (holdsA s i j) else if (s = "div" ∨ s = "mod") ∧ j = 0 then .fault "division by zero" else if -1000000000000000 ≤ workA s i j ∧ workA s i j ≤ 1000000000000000 then .num (workA s i j) else .fault "overflow") := rfl
  have hmem : s ∈ ineqs ↔ (s = "==" ∨ s = "<" ∨ s = "<=") := by simp [ineqs]
  by_cases hc : s ∈ ineqs
  · rw [decide_eq_true hc]
    refine iteT ?_
    rw [if_pos (hmem.mp hc)] at hP
    have con : ∀ (n : Int), n = (if holdsA s i j = true then 1 else 0) → ∀ u, H1 u = none → ∀ t, upd H1 u (.tup []) t = none → Q (.ref t) (upd (upd H1 u (.tup [])) t (.tup [.str "con", .int n, .ref u])) := fun n hb u hu t ht => by
      have su := same_new hu (.tup [])
      have st := same_new ht (.tup [.str "con", .int n, .ref u])
      refine q _ _ (sameT s1 (sameT su st)) ?_
      rw [hP]
      exact ⟨t, u, rfl, by rw [← hb]; exact upd_same, st u _ upd_same⟩
    refine ⟨_, rfl, _, rfl, _, rfl, s, i, j, rfl, hc, _, rfl, ?_⟩
    refine ite2 (fun h => ?_) (fun h => ?_)
    · exact ⟨by show 0 ≤ sizeLine; decide, fun u hu => ⟨by show 3 ≤ sizeLine; decide, fun t ht => con 1 (if_pos h).symm u hu t ht⟩⟩
    · exact ⟨by show 0 ≤ sizeLine; decide, fun u hu => ⟨by show 3 ≤ sizeLine; decide, fun t ht => con 0 (if_neg h).symm u hu t ht⟩⟩
  · rw [decide_eq_false hc]
    refine iteF ?_
    rw [if_neg (fun h => hc (hmem.mpr h))] at hP
    have hwk : s ∈ works := by
      simp only [signs, List.mem_cons, List.not_mem_nil, or_false] at hs
      simp only [ineqs, List.mem_cons, List.not_mem_nil, or_false, not_or] at hc
      simp only [works, List.mem_cons, List.not_mem_nil, or_false]
      rcases hs with h | h | h | h | h | h | h | h
      · exact .inl h
      · exact .inr (.inl h)
      · exact .inr (.inr (.inl h))
      · exact .inr (.inr (.inr (.inl h)))
      · exact .inr (.inr (.inr (.inr h)))
      · exact absurd h hc.1
      · exact absurd h hc.2.1
      · exact absurd h hc.2.2
    refine ⟨fun σ' G => σ' = [some (.str s), some (.int i), some (.int j), none] ∧ Same H1 G ∧ ¬ ((s = "div" ∨ s = "mod") ∧ j = 0), ?_, ?_⟩
    · refine ⟨_, rfl, by show 2 ≤ sizeLine; decide, fun t2 ht2 => ?_⟩
      have s2 := same_new ht2 (.tup [.str "div", .str "mod"])
      have e2 : upd H1 t2 (.tup [.str "div", .str "mod"]) t2 = some (.tup ([("div" : Str), "mod"].map V.str)) := upd_same
      have s12 := sameT s1 s2
      generalize upd H1 t2 (.tup [.str "div", .str "mod"]) = H2 at s2 e2 s12 ⊢
      refine ⟨t2, _, rfl, .inr (SqT.of e2), rfl, flat_strs _, ?_⟩
      rw [show (if false = true then !inV (.str s) ([("div" : Str), "mod"].map V.str) else inV (.str s) ([("div" : Str), "mod"].map V.str)) = decide (s = "div" ∨ s = "mod") by rw [if_neg (by decide), inV_strs]; exact decide_eq_decide.mpr (by simp)]
      refine ⟨_, rfl, ?_⟩
      by_cases hd : s = "div" ∨ s = "mod"
      · rw [decide_eq_true hd]
        refine iteT ?_
        refine ⟨_, rfl, rfl, _, rfl, ?_⟩
        by_cases hj : j = 0
        · rw [show decide (V.int j = V.int 0) = true from decide_eq_true (by rw [hj])]
          refine iteT ?_
          rw [if_pos ⟨hd, hj⟩] at hP
          refine q _ _ s12 ?_
          rw [hP]
          exact ⟨aZ, rfl, T.sBY_ZERO _⟩
        · rw [show decide (V.int j = V.int 0) = false from decide_eq_false fun e => hj (V.int.inj e)]
          refine iteF ?_
          exact ⟨rfl, s2, fun h => hj h.2⟩
      · rw [decide_eq_false hd]
        refine iteF ?_
        refine iteF ?_
        exact ⟨rfl, s2, fun h => hd h.1⟩
    · rintro _ G ⟨rfl, sG, hz⟩
      have s12 := sameT s1 sG
      rw [if_neg hz] at hP
      refine ⟨_, rfl, _, rfl, _, rfl, s, i, j, rfl, hwk, ⟨hi0, hi1⟩, ⟨hj0, hj1⟩, fun h e => hz ⟨h, e⟩, ?_⟩
      have num : primR s i j = .num (workA s i j) → 2 ≤ sizeLine ∧ ∀ t, G t = none → Q (.ref t) (upd G t (.tup [.str "num", .int (workA s i j)])) := fun hb => ⟨by decide, fun t ht => by
        refine q _ _ (sameT s12 (same_new ht _)) ?_
        rw [hb]
        exact ⟨t, rfl, upd_same⟩⟩
      have ovf : primR s i j = .fault "overflow" → Q (.ref aO) G := fun hb => by
        refine q _ _ s12 ?_
        rw [hb]
        exact ⟨aO, rfl, T.sOVERFLOW _⟩
      generalize workA s i j = x at hP num ⊢
      refine ⟨_, rfl, _, rfl, _, _, rfl, rfl, _, rfl, ?_⟩
      by_cases h1 : -1000000000000000 ≤ x
      · rw [decide_eq_true h1]
        refine iteT ?_
        refine ⟨_, _, rfl, rfl, _, rfl, ?_⟩
        by_cases h2 : x ≤ 1000000000000000
        · rw [decide_eq_true h2]
          refine iteF ?_
          rw [if_pos ⟨h1, h2⟩] at hP
          exact ⟨_, rfl, num hP⟩
        · rw [decide_eq_false h2]
          refine iteT ?_
          rw [if_neg (fun h => h2 h.2)] at hP
          exact ovf hP
      · rw [decide_eq_false h1]
        refine iteF ?_
        refine ⟨_, rfl, ?_⟩
        refine iteT ?_
        rw [if_neg (fun h => h1 h.1)] at hP
        exact ovf hP

end
end Toy

set_option Elab.async false
set_option linter.all false
set_option maxRecDepth 100000
set_option maxHeartbeats 4000000
/-! Part J: a value meets a frame. -/
namespace L2
open PySem PySem.Spec PyProof.Rows
theorem no_iadd_tup : typeLookup (.type "tuple") (dunderI "add") = pure none := by rw [typeLookup_type, builtinLookup_eq_fast] <;> kernel_rfl
section
variable {prog : Program} {w : World} {A : Around} {E : Value → Shared → Prop} {s : Shared}
theorem iadd_tup {t b : Addr} {us vs : List Value} {Q : Value → Shared → Prop} (p1 : IsTup s.heap t us.toArray) (p2 : IsTup s.heap b vs.toArray) (q0 : us = [] → Q (.ref b) s) (q1 : us ≠ [] → vs = [] → Q (.ref t) s)
    (q2 : us ≠ [] → vs ≠ [] → Q (.ref s.heap.objs.size) { s with heap := s.heap.push { cls := .type "tuple", data := .seq (us ++ vs).toArray } }) (sz : us.length + vs.length ≤ sizeLine) : wpAny (model prog w) A (inplaceOp .Add (.ref t) (.ref b)) Q E s := by
  obtain ⟨⟨cl1, d1, dt1, sl1⟩, o1, c1, n1, e1⟩ := id p1
  obtain ⟨⟨cl2, d2, dt2, sl2⟩, o2, c2, n2, e2⟩ := id p2
  simp only at c1 c2 e1 e2
  subst c1 e1 c2 e2
  have ty1 : s.TypeIs (.ref t) "tuple" := ⟨_, o1, rfl⟩
  refine PySem.wpAny_inplaceOp_concat ty1 ⟨_, o2, rfl⟩ no_iadd_tup noFill_tuple_add seq_tuple_add ?_
  by_cases h1 : us = []
  · exact call_meets PySem.F.slot_tuple_add ty1 PySem.F.entry_tuple_add (PySem.F.args_tuple_add_2 _ _) (tuple_addW0 t b us.toArray vs.toArray n1 n2 d1 d2 sl1 sl2 (by simp [h1])) ⟨o1, o2, q0 h1⟩
  · by_cases h2 : vs = []
    · exact call_meets PySem.F.slot_tuple_add ty1 PySem.F.entry_tuple_add (PySem.F.args_tuple_add_2 _ _) (tuple_addW1 t b us.toArray vs.toArray n1 n2 d1 d2 sl1 sl2 (by simpa using h1) (by simp [h2])) ⟨o1, o2, q1 h1 h2⟩
    · refine call_meets PySem.F.slot_tuple_add ty1 PySem.F.entry_tuple_add (PySem.F.args_tuple_add_2 _ _) (tuple_addW2 t b us.toArray vs.toArray n1 n2 d1 d2 sl1 sl2 (by simpa using h1) (by simpa using h2) (by rw [List.size_toArray, List.size_toArray]; exact sz)) ⟨o1, o2, ?_⟩
      rw [show us.toArray ++ vs.toArray = (us ++ vs).toArray by simp]
      exact q2 h1 h2
end
theorem ip_catA {X : Cx} : PIp X .Add (rCatA X.K) := by
  intro pins s σ H x y v u Q I rx ry h
  obtain ⟨a, b, xs, ys, rfl, rfl, ha, hb, hz, q0, q1, q2⟩ := h
  cases rx
  cases ry
  obtain ⟨its, r1, p1, _⟩ := I.tuple ha
  obtain ⟨its2, r2, p2, _⟩ := I.tuple hb
  refine iadd_tup p1 p2 (fun z => ⟨.ref b, H, I, rfl, q0 (r1.nil_iff.mp z)⟩) (fun z1 z2 => ⟨.ref a, H, I, rfl, q1 (fun e => z1 (r1.nil_iff.mpr e)) (r2.nil_iff.mp z2)⟩) (fun z1 z2 => ?_) (by rw [← r1.length, ← r2.length]; exact hz)
  refine ⟨.ref s.heap.objs.size, _, I.laid (t' := s.toks) (o := .tup (xs ++ ys)) (fun b ob q => Heap.get?_push_of_some _ q) (Nat.le_refl _) ?_, rfl, q2 (fun e => z1 (r1.nil_iff.mpr e)) (fun e => z2 (r2.nil_iff.mpr e)) _ (I.hok.fresh (Nat.le_refl _))⟩
  exact ⟨by rw [List.length_append]; exact hz, _, r1.append r2, IsTup.new _ _⟩


end L2
namespace Toy
open PySem L2
open PyProof.Rows (envOfC)
theorem cut_whole {xs : List V} {lo hi : Option Int} (h : HT.sIx xs.length 0 lo = 0 ∧ HT.sIx xs.length xs.length hi = xs.length) : cutV xs lo hi = xs := by
  unfold cutV
  rw [h.1, h.2, List.drop_zero, Nat.sub_zero, List.take_length]
theorem slA_tup {K : PySem.W.Frag} {H : Hp} {a : Addr} {xs : List V} {lo hi : Option Int} {Q : V → Hp → Prop} (ha : H a = some (.tup xs)) (h : ∀ p H', Same H H' → H' p = some (.tup (cutV xs lo hi)) → Q (.ref p) H') : rSlA K (.ref a) lo hi H Q :=
  ⟨a, xs, rfl, SqT.of ha, fun hw => h a H (fun _ _ e => e) (by rw [cut_whole hw]; exact ha), fun _ p hp => h p _ (same_new hp _) upd_same⟩
theorem catA_tup {K : PySem.W.Frag} {H : Hp} {a b : Addr} {xs ys : List V} {Q : V → Hp → Prop} (ha : H a = some (.tup xs)) (hb : H b = some (.tup ys)) (hz : xs.length + ys.length ≤ sizeLine) (h : ∀ p H', Same H H' → H' p = some (.tup (xs ++ ys)) → Q (.ref p) H') : rCatA K (.ref a) (.ref b) H Q :=
  ⟨a, b, xs, ys, rfl, rfl, SqT.of ha, SqT.of hb, hz, fun e => h b H (fun _ _ e => e) (by rw [e]; exact hb), fun _ e => h a H (fun _ _ e => e) (by rw [e, List.append_nil]; exact ha), fun _ _ p hp => h p _ (same_new hp _) upd_same⟩
theorem cut_from (xs : List V) (k : Nat) (h : k ≤ xs.length) : cutV xs (some (k : Int)) none = xs.drop k := by
  unfold cutV
  rw [HT.sIx_none, HT.sIx_nat, Nat.min_eq_left h]
  exact List.take_of_length_le (by rw [List.length_drop]; exact Nat.le_refl _)
theorem cut_to (xs : List V) (k : Nat) (h : k ≤ xs.length) : cutV xs none (some (k : Int)) = xs.take k := by
  unfold cutV
  rw [HT.sIx_none, HT.sIx_nat, Nat.min_eq_left h, List.drop_zero, Nat.sub_zero]
def fnD (q : Int × Dd) : Dd := .tup [.int q.1, q.2]
/-- the functions of a machine -/
def FsAt (H : Hp) (fs : List (Int × Dd)) (fv : V) : Prop := ∃ a xs, fv = .ref a ∧ H a = some (.tup xs) ∧ Dd.Ats F0 H (fs.map fnD) xs
theorem FsAt.keep {H H' : Hp} {fs : List (Int × Dd)} {fv : V} (h : FsAt H fs fv) (f : Fr F0 H H') : FsAt H' fs fv := by
  obtain ⟨a, xs, e, h1, h2⟩ := h
  exact ⟨a, xs, e, f.1 _ _ h1, h2.keep f⟩
theorem FsAt.get {H : Hp} {fs : List (Int × Dd)} {a : Addr} {xs : List V} (h : Dd.Ats F0 H (fs.map fnD) xs) {i : Nat} {q : Int × Dd} (hi : fs[i]? = some q) : ∃ t bv, xs[i]? = some (.ref t) ∧ H t = some (.tup [.int q.1, bv]) ∧ q.2.At F0 H bv := by
  obtain ⟨x, hx, t, ys, rfl, ht, y1, zs, rfl, hy1, y2, us, rfl, hy2, hn⟩ := ats_getI h (i := i) (k := fnD q) (by rw [List.getElem?_map, hi]; rfl)
  cases (show us = [] from hn)
  cases (show y1 = .int q.1 from hy1)
  exact ⟨t, y2, hx, ht, hy2⟩
theorem at_non {H : Hp} {d : Dd} (h : d.At F0 H .non) : d = .non := by
  cases d with
  | non => rfl
  | bl b => cases (show V.non = .bl b from h)
  | int i => cases (show V.non = .int i from h)
  | str s => cases (show V.non = .str s from h.1)
  | tup l => obtain ⟨a, xs, e, _⟩ := h; cases e
  | lst l => obtain ⟨a, xs, e, _⟩ := h; cases e
def VlAt (H : Hp) : Vl → V → Prop
  | .num n, v => (Dd.tup [.str "number", .int n]).At F0 H v
  | .cell c, v => c.D.At F0 H v
theorem VlAt.keep {H H' : Hp} (f : Fr F0 H H') : ∀ {l : Vl} {v : V}, VlAt H l v → VlAt H' l v
  | .num _, _, h => Dd.At.keep f h
  | .cell _, _, h => Dd.At.keep f h
theorem vl_word {H : Hp} {l : Vl} {v : V} (h : VlAt H l v) : ∃ a xs, v = .ref a ∧ H a = some (.tup (.str l.word :: xs)) := by
  cases l with
  | num n =>
    obtain ⟨a, xs, rfl, ha, x, ys, rfl, ⟨rfl, _⟩, hy⟩ := h
    exact ⟨a, _, rfl, ha⟩
  | cell c => exact cell_word h
theorem vl_num {H : Hp} {n : Int} {v : V} (h : VlAt H (.num n) v) : ∃ a, v = .ref a ∧ H a = some (.tup [.str "number", .int n]) := by
  obtain ⟨a, xs, rfl, ha, x, ys, rfl, ⟨rfl, _⟩, y, zs, rfl, hy, hn⟩ := h
  cases (show zs = [] from hn)
  cases (show y = .int n from hy)
  exact ⟨a, rfl, ha⟩
theorem vl_con {H : Hp} {t : Int} {vs : List Int} {v : V} (h : VlAt H (.cell (.con t vs)) v) : ∃ a u, v = .ref a ∧ H a = some (.tup [.str "con", .int t, .ref u]) ∧ H u = some (.tup (vs.map V.int)) := by
  obtain ⟨a, xs, rfl, ha, x, ys, rfl, ⟨rfl, _⟩, y, zs, rfl, hy, z, us, rfl, hz, hn⟩ := h
  cases (show us = [] from hn)
  cases (show y = .int t from hy)
  obtain ⟨u, rfl, hu⟩ := ws_at hz
  exact ⟨a, u, rfl, ha, hu⟩
theorem vl_part {H : Hp} {t : Int} {vs : List Int} {v : V} (h : VlAt H (.cell (.part t vs)) v) : ∃ a u, v = .ref a ∧ H a = some (.tup [.str "part", .int t, .ref u]) ∧ H u = some (.tup (vs.map V.int)) := by
  obtain ⟨a, xs, rfl, ha, x, ys, rfl, ⟨rfl, _⟩, y, zs, rfl, hy, z, us, rfl, hz, hn⟩ := h
  cases (show us = [] from hn)
  cases (show y = .int t from hy)
  obtain ⟨u, rfl, hu⟩ := ws_at hz
  exact ⟨a, u, rfl, ha, hu⟩
structure TxtMt (K : PySem.W.Frag) (mg : Str → Option Value) (C aS : Addr) : Prop extends TxtMk K C where
  zlen : mg "len" = none
  gSTUCK : ∃ u, mg "STUCK" = some u ∧ RelV (.ref aS) u
  sSTUCK : ∀ H, SqT K H aS [.str "stuck"]
section
variable {P : Program} {w : World} {K : PySem.W.Frag} {mg : Str → Option Value} {base : Heap} {CM CH aS : Addr}
abbrev sCellOf : Stmt := topS 41
theorem scCellOf : FnScope ["machine", "word"] ["machine", "word"] (defScope sCellOf) := ⟨rfl, rfl, rfl, by decide +kernel, rfl, by decide +kernel, by decide +kernel⟩
def spCellOf (CM CH : Addr) : Sp := fun vs H Q _ => ∃ (p : Pl) (m : Mc) (nv : V) (co x : Int) (l : Vl), vs = [.ref p.mo, .int x] ∧ MkAt CM CH H p m nv co ∧ VlS x m l ∧ ∀ (v' : V) (H' : Hp), Same H H' → VlAt H' l v' → Q v' H'
theorem c_cellof {f : Addr} {fd : FuncData} (TM : TxtMk K CM) (ccell : C8.Met P w K mg base 1 CH "cell" (spCell CH) []) (F : Fun K "_cell_of" "_cell_of" sCellOf f fd) (b : Binds K fd ["machine", "word"] []) (hm : mg "_cell_of" = some (.ref f)) : C8.Cal P w K mg base 2 "_cell_of" (spCellOf CM CH) [] := by
  refine cal_of F hm b scCellOf (fun vs H Q E h => ?_) (fun cdv A outer s H vs Q E hr h => ?_)
  · obtain ⟨p, m, nv, co, x, l, rfl, _⟩ := h
    rfl
  obtain ⟨p, m, nv, co, x, l, rfl, M, hv, q⟩ := h
  refine ⟨_, (pss_one (ps_ret (pe_ifExp (pt_cmpR op_ne (pe_op op_mod (pv 1) pe_int) pe_int (nomark _)) (pe_tup (pa_cons pe_str (pa_cons (pe_op op_fdiv (pv 1) pe_int) pa_nil))) (C8.pe_mt ccell hr (by decide) (pe_fld (pv 0) rfl) (pa_cons (pe_op op_fdiv (pv 1) pe_int) pa_nil))))), ?_⟩
  obtain ⟨dx, ho⟩ := M.o
  obtain ⟨⟨dy, hho⟩, _⟩ := id M.h
  refine ⟨_, rfl, _, _, rfl, rfl, (show (0 : Int) < 2 by decide), rfl, _, rfl, ?_⟩
  cases hv with
  | @odd n _ =>
    show if (!decide (V.int ((2 * n + 1) % 2) = V.int 0)) = true then _ else _
    rw [odd_ne]
    refine iteT ?_
    refine ⟨_, rfl, _, _, rfl, rfl, ⟨by decide, by decide⟩, by show 2 ≤ sizeLine; decide, fun t ht => ?_⟩
    dsimp only
    rw [half1]
    exact q _ _ (same_new ht _) (at_tup upd_same (ats_cons (at_str' (by decide +kernel)) (ats_cons rfl ats_nil)))
  | @even n _ c hc =>
    show if (!decide (V.int ((2 * (n : Int)) % 2) = V.int 0)) = true then _ else _
    rw [even_ne]
    refine iteF ?_
    refine ⟨_, rfl, p.mo, CM, dx, _, .ref p.ho, rfl, ho, TM.cl, TM.n_heap, fM_heap .., p.ho, dy, _, rfl, hho, fldH_no_cell .., _, rfl, _, _, rfl, rfl, ⟨by decide, by decide⟩, p, m.cs, n, c, ?_, M.h, hc, fun cv hcv => q _ _ same_id hcv⟩
    dsimp only
    rw [half]
    rfl
abbrev sIsPart : Stmt := topS 42
theorem scIsPart : FnScope ["machine", "cell", "frame", "arity", "_"] ["machine", "cell", "frame"] (defScope sIsPart) := ⟨rfl, rfl, rfl, by decide +kernel, rfl, by decide +kernel, by decide +kernel⟩
def spIsPart (CM CH : Addr) : Sp := fun vs H Q _ => ∃ (p : Pl) (m : Mc) (nv cv gv : V) (co ar : Int) (fs : List (Int × Dd)) (i : Nat) (us ws : List Int) (b : Dd), vs = [.ref p.mo, cv, gv] ∧ MkAt CM CH H p m nv co ∧ FsAt H fs p.fv ∧ VlAt H (.cell (.part (i : Int) us)) cv ∧ (Fm.apply ws).D.At F0 H gv ∧ fs[i]? = some (ar, b) ∧ Q (.bl (decide (((us.length + ws.length : Nat) : Int) < ar))) H
theorem c_ispart {f : Addr} {fd : FuncData} (T : TxtMt K mg CM aS) (F : Fun K "_is_partial" "_is_partial" sIsPart f fd) (b : Binds K fd ["machine", "cell", "frame"] []) (hm : mg "_is_partial" = some (.ref f)) : C8.Cal P w K mg base 1 "_is_partial" (spIsPart CM CH) [] := by
  refine cal_of F hm b scIsPart (fun vs H Q E h => ?_) (fun cdv A outer s H vs Q E hr h => ?_)
  · obtain ⟨p, m, nv, cv, gv, co, ar, fs, i, us, ws, b, rfl, _⟩ := h
    rfl
  obtain ⟨p, m, nv, cv, gv, co, ar, fs, i, us, ws, bd, rfl, M, ⟨fa, fxs, hfv, hfa, hfx⟩, hcv, hgv, hi, q⟩ := h
  refine ⟨_, (pss_cons (ps_asg (pe_ix ix_tup (pe_fld (pv 0) rfl) (pe_ix ix_tup (pv 1) pe_int (fun _ _ => rfl)) (fun _ _ => rfl)) (pg_tup rfl (pgs_cons (pg_name (i := 3) scIsPart.nd rfl (Or.inl rfl)) (pgs_cons (pg_name (i := 4) scIsPart.nd rfl (Or.inl rfl)) pgs_nil))))
    (pss_one (ps_ret (pe_cmpR op_lt (pe_op op_add (pe_callB call_len_seq rfl T.zlen PySem.boot_len (pa_cons (pe_ix ix_tup (pv 1) pe_int (fun _ _ => rfl)) pa_nil)) (pe_callB call_len_seq rfl T.zlen PySem.boot_len (pa_cons (pe_ix ix_tup (pv 2) pe_int (fun _ _ => rfl)) pa_nil))) (pv 3) (nomark _))))), ?_⟩
  obtain ⟨dx, ho⟩ := M.o
  obtain ⟨ca, cu, rfl, hca, hcu⟩ := vl_part hcv
  obtain ⟨ga, gxs, rfl, hga, x1, ys1, rfl, ⟨rfl, _⟩, y2, zs2, rfl, hy2, hn⟩ := hgv
  obtain ⟨gu, rfl, hgu⟩ := ws_at hy2
  obtain ⟨t, bv, hft, ht, hbv⟩ := FsAt.get (a := fa) hfx hi
  rw [hfv] at ho
  refine ⟨_, rfl, p.mo, CM, dx, _, _, rfl, ho, T.cl, T.n_functions, fM_functions .., _, rfl, ca, _, 1, _, rfl, rfl, SqT.of hca, at1 _ _ _, fa, _, _, _, rfl, rfl, SqT.of hfa, atI_nat hft, ?_⟩
  refine ⟨t, _, rfl, SqT.of ht, rfl, _, _, rfl, _, _, rfl, rfl, ?_⟩
  refine ⟨_, rfl, ca, _, 2, _, rfl, rfl, SqT.of hca, at2 _ _ _ _, cu, _, rfl, .inr (SqT.of hcu), _, rfl, ga, _, 1, _, rfl, rfl, SqT.of hga, at1 _ _ _, gu, _, rfl, .inr (SqT.of hgu), _, _, rfl, rfl, _, rfl, _, _, rfl, rfl, ?_⟩
  rw [List.length_map, List.length_map, show ((us.length : Nat) : Int) + ((ws.length : Nat) : Int) = ((us.length + ws.length : Nat) : Int) by omega]
  exact q
abbrev sFault : Stmt := topS 43
theorem scFault : FnScope ["machine", "text"] ["machine", "text"] (defScope sFault) := ⟨rfl, rfl, rfl, by decide +kernel, rfl, by decide +kernel, by decide +kernel⟩
def spFault (CM CH : Addr) : Sp := fun vs H Q _ => ∃ (p : Pl) (m : Mc) (nv : V) (co : Int) (z : Str), vs = [.ref p.mo, .str z] ∧ MkAt CM CH H p m nv co ∧ m.small ∧ z.length ≤ 1000 ∧ ∀ (v' : V) (H' : Hp), KeepM p H H' → MkAt CM CH H' p (m.ev (.fault z)) nv co → (Nw.fault z).D.At F0 H' v' → Q v' H'
theorem c_fault {f : Addr} {fd : FuncData} (TM : TxtMk K CM) (F : Fun K "_fault" "_fault" sFault f fd) (b : Binds K fd ["machine", "text"] []) (hm : mg "_fault" = some (.ref f)) : C8.Cal P w K mg base 1 "_fault" (spFault CM CH) [] := by
  refine cal_of F hm b scFault (fun vs H Q E h => ?_) (fun cdv A outer s H vs Q E hr h => ?_)
  · obtain ⟨p, m, nv, co, z, rfl, _⟩ := h
    rfl
  obtain ⟨p, m, nv, co, z, rfl, M, hsm, hz, q⟩ := h
  refine ⟨_, (pss_cons (ps_expr (pe_bm PySem.F.plainAttrs_list PySem.F.slot_list_append PySem.F.type_list_append mt_append (pe_fld (pv 0) rfl) (pa_cons (pe_tup (pa_cons pe_str (pa_cons (pv 1) pa_nil))) pa_nil)))
    (pss_one (ps_ret (pe_tup (pa_cons pe_str (pa_cons (pv 1) pa_nil)))))), ?_⟩
  obtain ⟨dx, ho⟩ := M.o
  obtain ⟨ss, hss, hsz⟩ := evs_len M hsm
  refine ⟨_, rfl, p.mo, CM, dx, _, .ref p.ea, rfl, ho, TM.cl, TM.n_events, fM_events .., .inl ⟨rfl, _, SqL.of hss⟩, _, rfl, by show 2 ≤ sizeLine; decide, fun t2 ht2 => ?_⟩
  have s2 := same_new ht2 (.tup [.str "fault", .str z])
  have hv : (Ev.fault z).D.At F0 (upd H t2 (.tup [.str "fault", .str z])) (.ref t2) := at_tup upd_same (ats_cons (at_str' (by decide +kernel)) (ats_cons (at_str' hz) ats_nil))
  generalize upd H t2 (.tup [.str "fault", .str z]) = H2 at s2 hv ⊢
  refine ⟨p.ea, _, _, rfl, rfl, s2 _ _ hss, hsz, ?_⟩
  obtain ⟨M3, k3, f3⟩ := (M.same s2).tell (s2 _ _ hss) hv
  generalize upd H2 p.ea (.lst (ss ++ [.ref t2])) = H3 at M3 k3 f3 ⊢
  refine ⟨_, rfl, by show 2 ≤ sizeLine; decide, fun t ht => ?_⟩
  have s4 := same_new ht (.tup [.str "fault", .str z])
  exact q _ _ (((KeepM.same s2).trans k3).trans (KeepM.same s4)) (M3.same s4) (at_tup upd_same (ats_cons (at_str' (by decide +kernel)) (ats_cons (at_str' hz) ats_nil)))
abbrev sChDef : Stmt := topS 50
theorem scChDef : FnScope ["machine", "default", "words", "word"] ["machine", "default", "words", "word"] (defScope sChDef) := ⟨rfl, rfl, rfl, by decide +kernel, rfl, by decide +kernel, by decide +kernel⟩
def spChDef (K : PySem.W.Frag) (CM CH : Addr) : Sp := fun vs H Q _ => ∃ (p : Pl) (m m' : Mc) (nv dv wv : V) (co x : Int) (d : Dd) (ws : List Int) (n : Nw), vs = [.ref p.mo, dv, wv, .int x] ∧ MkAt CM CH H p m nv co ∧ m.small ∧ d.At F0 H dv ∧ (wsD ws).At F0 H wv ∧ DfS d ws x m n m' ∧ ∀ (v' : V) (H' : Hp), KeepM p H H' → MkAt CM CH H' p m' nv co → NwAt K H' n v' → Q v' H'
theorem c_chdef {f : Addr} {fd : FuncData} (TM : TxtMk K CM) (c_fault : C8.Cal P w K mg base 1 "_fault" (spFault CM CH) []) (F : Fun K "_choose_default" "_choose_default" sChDef f fd) (b : Binds K fd ["machine", "default", "words", "word"] []) (hm : mg "_choose_default" = some (.ref f)) : C8.Cal P w K mg base 2 "_choose_default" (spChDef K CM CH) [] := by
  refine cal_of F hm b scChDef (fun vs H Q E h => ?_) (fun cdv A outer s H vs Q E hr h => ?_)
  · obtain ⟨p, m, m', nv, dv, wv, co, x, d, ws, n, rfl, _⟩ := h
    rfl
  obtain ⟨p, m, m', nv, dv, wv, co, x, d, ws, n, rfl, M, hsm, hd, hws, hdf, q⟩ := h
  refine ⟨_, (pss_cons (ps_if (pt_cmpR op_isN (pv 1) pe_non (nomark _))
      (pss_one (ps_ret (C8.pe_c c_fault hr (by decide) rfl (pa_cons (pv 0) (pa_cons pe_str pa_nil)))))
      pss_nil)
    (pss_one (ps_ret (pe_tup (pa_cons pe_str (pa_cons (pv 1) (pa_cons (pe_tup (StX.pa_star (pv 2) (pa_cons (pv 3) pa_nil))) pa_nil))))))), ?_⟩
  cases hdf with
  | non =>
    cases (show dv = .non from hd)
    refine ⟨_, rfl, rfl, _, rfl, ?_⟩
    refine iteT ?_
    exact ⟨_, rfl, p, m, nv, co, _, rfl, M, hsm, by decide +kernel, fun v' H' k' M' hv' => q _ _ k' M' hv'⟩
  | some hne hwl =>
    refine ⟨_, rfl, rfl, _, rfl, ?_⟩
    rw [show decide (dv = V.non) = false from decide_eq_false fun e => hne (at_non (e ▸ hd))]
    refine iteF ?_
    obtain ⟨wa, rfl, hwa⟩ := ws_at hws
    refine ⟨_, rfl, _, rfl, wa, _, rfl, .inl (SqT.of hwa), _, rfl, by show (ws.map V.int ++ [V.int x]).length ≤ sizeLine; rw [List.length_append, List.length_map]; exact Nat.le_of_lt (szl (by show ws.length + 1 ≤ _; omega)), fun t1 ht1 => ⟨by show 3 ≤ sizeLine; decide, fun t2 ht2 => ?_⟩⟩
    have s1 := same_new ht1 (.tup (ws.map V.int ++ [.int x]))
    have e1 : upd H t1 (.tup (ws.map V.int ++ [.int x])) t1 = some (.tup ((ws ++ [x]).map V.int)) := by rw [upd_same, List.map_append]; rfl
    have s2 := same_new ht2 (.tup [.str "eval", dv, .ref t1])
    have s12 := sameT s1 s2
    exact q _ _ (KeepM.same s12) (M.same s12) (at_tup upd_same (ats_cons (at_str' (by decide +kernel)) (ats_cons (hd.keep (fr_same s12)) (ats_cons (ws_of (s2 _ _ e1)) ats_nil))))
end
end Toy

set_option Elab.async false
set_option linter.all false
set_option maxRecDepth 100000
set_option maxHeartbeats 4000000
/-! Part K: meetings, frame by frame. -/
namespace Toy
open PySem L2
open PyProof.Rows (envOfC)
theorem nno {z w' : Str} {A B : Prop} (h : z ≠ w') (hb : A) : if (!decide (V.str z = V.str w')) = true then A else B := by rw [wne h]; exact iteT hb
theorem nyes {z : Str} {A B : Prop} (hb : B) : if (!decide (V.str z = V.str z)) = true then A else B := by rw [wtt]; exact iteF hb
theorem ieq {i j : Int} (h : i = j) : decide (V.int i = V.int j) = true := decide_eq_true (by rw [h])
theorem ine {i j : Int} (h : i ≠ j) : decide (V.int i = V.int j) = false := decide_eq_false fun e => h (V.int.inj e)
section
variable {P : Program} {w : World} {K : PySem.W.Frag} {mg : Str → Option Value} {base : Heap} {CM CH aS : Addr}
/-- a value meets a frame of this kind -/
def spMt (K : PySem.W.Frag) (CM CH : Addr) (kind : Fm → Prop) : Sp := fun vs H Q _ => ∃ (p : Pl) (m m' : Mc) (nv gv : V) (co x : Int) (fs : List (Int × Dd)) (f : Fm) (n : Nw), vs = [.ref p.mo, gv, .int x] ∧ kind f ∧ MkAt CM CH H p m nv co ∧ FsAt H fs p.fv ∧ f.D.At F0 H gv ∧ MtS fs f x m n m' ∧ m.small ∧
  ∀ (v' : V) (H' : Hp), KeepM p H H' → MkAt CM CH H' p m' nv co → NwAt K H' n v' → Q v' H'
abbrev sMtShow : Stmt := topS 44
theorem scMtShow : FnScope ["machine", "frame", "word", "cell", "first", "rest"] ["machine", "frame", "word"] (defScope sMtShow) := ⟨rfl, rfl, rfl, by decide +kernel, rfl, by decide +kernel, by decide +kernel⟩
theorem c_meet_show {f : Addr} {fd : FuncData} (T : TxtMt K mg CM aS) (c_cell_of : C8.Cal P w K mg base 2 "_cell_of" (spCellOf CM CH) [])  (F : Fun K "_meet_show" "_meet_show" sMtShow f fd) (b : Binds K fd ["machine", "frame", "word"] []) (hm : mg "_meet_show" = some (.ref f)) : C8.Cal P w K mg base 4 "_meet_show" (spMt K CM CH fun f => f = .show) [] := by
  refine cal_of F hm b scMtShow (fun vs H Q E h => ?_) (fun cdv A outer s H vs Q E hr h => ?_)
  · obtain ⟨p, m, m', nv, gv, co, x, fs, f, n, rfl, _⟩ := h
    rfl
  obtain ⟨p, m, m', nv, gv, co, x, fs, fm, n, rfl, rfl, M, hF, hgv, hmt, hsm, q⟩ := h
  refine ⟨_, (pss_cons (ps_set (i := 3) scMtShow.nd rfl (Or.inl rfl) (C8.pe_c c_cell_of hr (by decide) rfl (pa_cons (pv 0) (pa_cons (pv 2) pa_nil))))
    (pss_cons (ps_if (pt_cmpR op_ne (pe_ix ix_tup (pv 3) pe_int (fun _ _ => rfl)) pe_str (nomark _))
      (pss_one (ps_ret (C8.pe_gc rfl T.gSTUCK)))
      pss_nil)
    (pss_cons (ps_if (pt_cmpR op_eq (pe_ix ix_tup (pv 3) pe_int (fun _ _ => rfl)) pe_int (nomark _))
      (pss_cons (ps_expr (pe_bm PySem.F.plainAttrs_list PySem.F.slot_list_append PySem.F.type_list_append mt_append (pe_fld (pv 0) rfl) (pa_cons (pe_tup (pa_cons pe_str pa_nil)) pa_nil)))
    (pss_one (ps_ret (pe_tup (pa_cons pe_str pa_nil)))))
      pss_nil)
    (pss_cons (ps_if (PW.pt (pw_or (pt_cmpR op_ne (pe_ix ix_tup (pv 3) pe_int (fun _ _ => rfl)) pe_int (nomark _)) (pw_or1 (pt_cmpR op_ne (pe_callB call_len_seq rfl T.zlen PySem.boot_len (pa_cons (pe_ix ix_tup (pv 3) pe_int (fun _ _ => rfl)) pa_nil)) pe_int (nomark _)))))
      (pss_one (ps_ret (C8.pe_gc rfl T.gSTUCK)))
      pss_nil)
    (pss_cons (ps_asg (pe_ix ix_tup (pv 3) pe_int (fun _ _ => rfl)) (pg_tup rfl (pgs_cons (pg_name (i := 4) scMtShow.nd rfl (Or.inl rfl)) (pgs_cons (pg_name (i := 5) scMtShow.nd rfl (Or.inl rfl)) pgs_nil))))
    (pss_cons (ps_expr (pe_bm PySem.F.plainAttrs_list PySem.F.slot_list_append PySem.F.type_list_append mt_append (pe_fld (pv 0) rfl) (pa_cons (pe_tup (pa_cons pe_str (pa_cons (pv 5) pa_nil))) pa_nil)))
    (pss_one (ps_ret (pe_tup (pa_cons pe_str (pa_cons (pv 4) pa_nil))))))))))), ?_⟩
  have stuckQ : ∀ {H1 : Hp}, Same H H1 → n = .stuck → m' = m → Q (.ref aS) H1 := fun s1 e1 e2 => by
    subst e1 e2
    exact q _ _ (KeepM.same s1) (M.same s1) ⟨aS, rfl, T.sSTUCK _⟩
  cases hmt with
  | showNo hv hne =>
    refine ⟨_, rfl, _, rfl, p, m, nv, co, x, _, rfl, M, hv, fun cv H1 s1 hcv => ?_⟩
    obtain ⟨ca, cxs, rfl, hca⟩ := vl_word hcv
    refine ⟨_, rfl, ca, _, 0, _, rfl, rfl, SqT.of hca, at0 _ _, rfl, _, rfl, ?_⟩
    exact nno hne (stuckQ s1 rfl rfl)
  | @showEnd _ _ vs hv =>
    refine ⟨_, rfl, _, rfl, p, m, nv, co, x, _, rfl, M, hv, fun cv H1 s1 hcv => ?_⟩
    obtain ⟨ca, cu, rfl, hca, hcu⟩ := vl_con hcv
    refine ⟨_, rfl, ca, _, 0, _, rfl, rfl, SqT.of hca, at0 _ _, rfl, _, rfl, ?_⟩
    refine nyes ?_
    refine ⟨_, rfl, ca, _, 1, _, rfl, rfl, SqT.of hca, at1 _ _ _, rfl, _, rfl, ?_⟩
    refine iteT ?_
    have M1 := M.same s1
    obtain ⟨dx, ho⟩ := M1.o
    obtain ⟨ss, hss, hsz⟩ := evs_len M1 hsm
    refine ⟨_, rfl, p.mo, CM, dx, _, .ref p.ea, rfl, ho, T.cl, T.n_events, fM_events .., .inl ⟨rfl, _, SqL.of hss⟩, by show 1 ≤ sizeLine; decide, fun t2 ht2 => ?_⟩
    have s2 := same_new ht2 (.tup [.str "end"])
    have hev : Ev.fin.D.At F0 (upd H1 t2 (.tup [.str "end"])) (.ref t2) := at_tup upd_same (ats_cons (at_str' (by decide +kernel)) ats_nil)
    generalize upd H1 t2 (.tup [.str "end"]) = H2 at s2 hev ⊢
    refine ⟨p.ea, _, _, rfl, rfl, s2 _ _ hss, hsz, ?_⟩
    obtain ⟨M3, k3, f3⟩ := (M1.same s2).tell (s2 _ _ hss) hev
    generalize upd H2 p.ea (.lst (ss ++ [.ref t2])) = H3 at M3 k3 f3 ⊢
    refine ⟨by show 1 ≤ sizeLine; decide, fun t ht => ?_⟩
    have s4 := same_new ht (.tup [.str "end"])
    exact q _ _ (((KeepM.same (sameT s1 s2)).trans k3).trans (KeepM.same s4)) (M3.same s4) (at_tup upd_same (ats_cons (at_str' (by decide +kernel)) ats_nil))
  | @showCons _ a1 b1 _ hv =>
    refine ⟨_, rfl, _, rfl, p, m, nv, co, x, _, rfl, M, hv, fun cv H1 s1 hcv => ?_⟩
    obtain ⟨ca, cu, rfl, hca, hcu⟩ := vl_con hcv
    refine ⟨_, rfl, ca, _, 0, _, rfl, rfl, SqT.of hca, at0 _ _, rfl, _, rfl, ?_⟩
    refine nyes ?_
    refine ⟨_, rfl, ca, _, 1, _, rfl, rfl, SqT.of hca, at1 _ _ _, rfl, _, rfl, ?_⟩
    refine iteF ?_
    refine ⟨_, rfl, ca, _, 1, _, rfl, rfl, SqT.of hca, at1 _ _ _, rfl, _, rfl, ?_⟩
    refine iteF ?_
    refine ⟨_, rfl, ca, _, 2, _, rfl, rfl, SqT.of hca, at2 _ _ _ _, cu, _, rfl, .inr (SqT.of hcu), rfl, _, rfl, ?_⟩
    refine iteF ?_
    refine ⟨_, rfl, ca, _, 2, _, rfl, rfl, SqT.of hca, at2 _ _ _ _, cu, _, rfl, SqT.of hcu, rfl, _, _, rfl, _, _, rfl, rfl, ?_⟩
    have M1 := M.same s1
    obtain ⟨dx, ho⟩ := M1.o
    obtain ⟨ss, hss, hsz⟩ := stk_len M1 hsm
    refine ⟨_, rfl, p.mo, CM, dx, _, .ref p.sa, rfl, ho, T.cl, T.n_stack, fM_stack .., .inl ⟨rfl, _, SqL.of hss⟩, _, rfl, by show 2 ≤ sizeLine; decide, fun t2 ht2 => ?_⟩
    have s2 := same_new ht2 (.tup [.str "head", .int b1])
    have hev : (Fm.head b1).D.At F0 (upd H1 t2 (.tup [.str "head", .int b1])) (.ref t2) := at_tup upd_same (ats_cons (at_str' (by decide +kernel)) (ats_cons rfl ats_nil))
    generalize upd H1 t2 (.tup [.str "head", .int b1]) = H2 at s2 hev ⊢
    refine ⟨p.sa, _, _, rfl, rfl, s2 _ _ hss, hsz, ?_⟩
    obtain ⟨M3, k3, f3⟩ := (M1.same s2).push (s2 _ _ hss) hev
    generalize upd H2 p.sa (.lst (ss ++ [.ref t2])) = H3 at M3 k3 f3 ⊢
    refine ⟨_, rfl, by show 2 ≤ sizeLine; decide, fun t ht => ?_⟩
    have s4 := same_new ht (.tup [.str "enter", .int a1])
    exact q _ _ (((KeepM.same (sameT s1 s2)).trans k3).trans (KeepM.same s4)) (M3.same s4) (at_tup upd_same (ats_cons (at_str' (by decide +kernel)) (ats_cons rfl ats_nil)))
  | @showBad _ t0 _ vs hv h0 h1 =>
    refine ⟨_, rfl, _, rfl, p, m, nv, co, x, _, rfl, M, hv, fun cv H1 s1 hcv => ?_⟩
    obtain ⟨ca, cu, rfl, hca, hcu⟩ := vl_con hcv
    refine ⟨_, rfl, ca, _, 0, _, rfl, rfl, SqT.of hca, at0 _ _, rfl, _, rfl, ?_⟩
    refine nyes ?_
    refine ⟨_, rfl, ca, _, 1, _, rfl, rfl, SqT.of hca, at1 _ _ _, rfl, _, rfl, ?_⟩
    show if decide (V.int t0 = V.int 0) = true then _ else _
    rw [ine h0]
    refine iteF ?_
    refine ⟨_, rfl, ca, _, 1, _, rfl, rfl, SqT.of hca, at1 _ _ _, rfl, _, rfl, ?_⟩
    by_cases h2 : t0 = 1
    · have h3 : vs.length ≠ 2 := h1.resolve_left fun h => h h2
      show if (!decide (V.int t0 = V.int 1)) = true then _ else _
      rw [ieq h2]
      refine iteF ?_
      refine ⟨_, rfl, ca, _, 2, _, rfl, rfl, SqT.of hca, at2 _ _ _ _, cu, _, rfl, .inr (SqT.of hcu), rfl, _, rfl, ?_⟩
      show if (!decide (V.int (((vs.map V.int).length : Nat) : Int) = V.int 2)) = true then _ else _
      rw [ine (by rw [List.length_map]; omega)]
      exact iteT (stuckQ s1 rfl rfl)
    · show if (!decide (V.int t0 = V.int 1)) = true then _ else _
      rw [ine h2]
      exact iteT (iteT (stuckQ s1 rfl rfl))
abbrev sMtHead : Stmt := topS 45
theorem scMtHead : FnScope ["machine", "frame", "word", "cell"] ["machine", "frame", "word"] (defScope sMtHead) := ⟨rfl, rfl, rfl, by decide +kernel, rfl, by decide +kernel, by decide +kernel⟩
theorem c_meet_head {f : Addr} {fd : FuncData} (T : TxtMt K mg CM aS) (c_cell_of : C8.Cal P w K mg base 2 "_cell_of" (spCellOf CM CH) [])  (F : Fun K "_meet_head" "_meet_head" sMtHead f fd) (b : Binds K fd ["machine", "frame", "word"] []) (hm : mg "_meet_head" = some (.ref f)) : C8.Cal P w K mg base 4 "_meet_head" (spMt K CM CH fun f => ∃ r, f = .head r) [] := by
  refine cal_of F hm b scMtHead (fun vs H Q E h => ?_) (fun cdv A outer s H vs Q E hr h => ?_)
  · obtain ⟨p, m, m', nv, gv, co, x, fs, f, n, rfl, _⟩ := h
    rfl
  obtain ⟨p, m, m', nv, gv, co, x, fs, fm, n, rfl, ⟨r0, rfl⟩, M, hF, hgv, hmt, hsm, q⟩ := h
  refine ⟨_, (pss_cons (ps_set (i := 3) scMtHead.nd rfl (Or.inl rfl) (C8.pe_c c_cell_of hr (by decide) rfl (pa_cons (pv 0) (pa_cons (pv 2) pa_nil))))
    (pss_cons (ps_if (pt_cmpR op_ne (pe_ix ix_tup (pv 3) pe_int (fun _ _ => rfl)) pe_str (nomark _))
      (pss_one (ps_ret (C8.pe_gc rfl T.gSTUCK)))
      pss_nil)
    (pss_cons (ps_expr (pe_bm PySem.F.plainAttrs_list PySem.F.slot_list_append PySem.F.type_list_append mt_append (pe_fld (pv 0) rfl) (pa_cons (pe_tup (pa_cons pe_str (pa_cons (pe_ix ix_tup (pv 3) pe_int (fun _ _ => rfl)) pa_nil))) pa_nil)))
    (pss_cons (ps_expr (pe_bm PySem.F.plainAttrs_list PySem.F.slot_list_append PySem.F.type_list_append mt_append (pe_fld (pv 0) rfl) (pa_cons (pe_tup (pa_cons pe_str pa_nil)) pa_nil)))
    (pss_one (ps_ret (pe_tup (pa_cons pe_str (pa_cons (pe_ix ix_tup (pv 1) pe_int (fun _ _ => rfl)) pa_nil))))))))), ?_⟩
  have stuckQ : ∀ {H1 : Hp}, Same H H1 → n = .stuck → m' = m → Q (.ref aS) H1 := fun s1 e1 e2 => by
    subst e1 e2
    exact q _ _ (KeepM.same s1) (M.same s1) ⟨aS, rfl, T.sSTUCK _⟩
  obtain ⟨ga, gxs, rfl, hga, x1, ys1, rfl, ⟨rfl, _⟩, y2, zs2, rfl, hy2, hn⟩ := hgv
  cases (show y2 = .int r0 from hy2)
  cases hmt with
  | headNo hv hne =>
    refine ⟨_, rfl, _, rfl, p, m, nv, co, x, _, rfl, M, hv, fun cv H1 s1 hcv => ?_⟩
    obtain ⟨ca, cxs, rfl, hca⟩ := vl_word hcv
    refine ⟨_, rfl, ca, _, 0, _, rfl, rfl, SqT.of hca, at0 _ _, rfl, _, rfl, ?_⟩
    exact nno hne (stuckQ s1 rfl rfl)
  | @head _ _ n0 _ hv =>
    refine ⟨_, rfl, _, rfl, p, m, nv, co, x, _, rfl, M, hv, fun cv H1 s1 hcv => ?_⟩
    obtain ⟨ca, rfl, hca⟩ := vl_num hcv
    refine ⟨_, rfl, ca, _, 0, _, rfl, rfl, SqT.of hca, at0 _ _, rfl, _, rfl, ?_⟩
    refine nyes ?_
    have M1 := M.same s1
    obtain ⟨dx, ho⟩ := M1.o
    obtain ⟨ss, hss, hsz⟩ := evs_len M1 hsm
    refine ⟨_, rfl, p.mo, CM, dx, _, .ref p.ea, rfl, ho, T.cl, T.n_events, fM_events .., .inl ⟨rfl, _, SqL.of hss⟩, _, rfl, ca, _, 1, _, rfl, rfl, SqT.of hca, at1 _ _ _, by show 2 ≤ sizeLine; decide, fun t2 ht2 => ?_⟩
    have s2 := same_new ht2 (.tup [.str "show", .int n0])
    have hev : (Ev.shw n0).D.At F0 (upd H1 t2 (.tup [.str "show", .int n0])) (.ref t2) := at_tup upd_same (ats_cons (at_str' (by decide +kernel)) (ats_cons rfl ats_nil))
    generalize upd H1 t2 (.tup [.str "show", .int n0]) = H2 at s2 hev ⊢
    refine ⟨p.ea, _, _, rfl, rfl, s2 _ _ hss, hsz, ?_⟩
    obtain ⟨M3, k3, f3⟩ := (M1.same s2).tell (s2 _ _ hss) hev
    generalize upd H2 p.ea (.lst (ss ++ [.ref t2])) = H3 at M3 k3 f3 ⊢
    obtain ⟨dx3, ho3⟩ := M3.o
    have hs3 : H3 p.sa = (upd H2 p.ea (.lst (ss ++ [.ref t2]))) p.sa ∨ True := .inr trivial
    obtain ⟨us, hus, husA⟩ := id M3.s
    have husz : us.length < sizeLine := by
      have := ats_len husA
      rw [List.length_map] at this
      have h3 := hsm.s
      have h4 : us.length = m.stk.length := this
      exact szl (by omega)
    refine ⟨_, rfl, p.mo, CM, dx3, _, .ref p.sa, rfl, ho3, T.cl, T.n_stack, fM_stack .., .inl ⟨rfl, _, SqL.of hus⟩, by show 1 ≤ sizeLine; decide, fun t3 ht3 => ?_⟩
    have s3 := same_new ht3 (.tup [.str "show"])
    have hsh : Fm.show.D.At F0 (upd H3 t3 (.tup [.str "show"])) (.ref t3) := at_tup upd_same (ats_cons (at_str' (by decide +kernel)) ats_nil)
    generalize upd H3 t3 (.tup [.str "show"]) = H4 at s3 hsh ⊢
    refine ⟨p.sa, _, _, rfl, rfl, s3 _ _ hus, husz, ?_⟩
    obtain ⟨M4, k4, f4⟩ := (M3.same s3).push (s3 _ _ hus) hsh
    generalize upd H4 p.sa (.lst (us ++ [.ref t3])) = H5 at M4 k4 f4 ⊢
    have hgaE := f4.1 _ _ (s3 _ _ (f3.1 _ _ ((sameT s1 s2) _ _ hga)))
    refine ⟨_, rfl, ga, _, 1, _, rfl, rfl, SqT.of hgaE, at1 _ _ _, by show 2 ≤ sizeLine; decide, fun t ht => ?_⟩
    have s4 := same_new ht (.tup [.str "enter", .int r0])
    exact q _ _ (((((KeepM.same (sameT s1 s2)).trans k3).trans (KeepM.same s3)).trans k4).trans (KeepM.same s4)) (M4.same s4) (at_tup upd_same (ats_cons (at_str' (by decide +kernel)) (ats_cons rfl ats_nil)))
abbrev sMtUpd : Stmt := topS 46
theorem scMtUpd : FnScope ["machine", "frame", "word"] ["machine", "frame", "word"] (defScope sMtUpd) := ⟨rfl, rfl, rfl, by decide +kernel, rfl, by decide +kernel, by decide +kernel⟩
theorem c_meet_update {f : Addr} {fd : FuncData} (T : TxtMt K mg CM aS) (c_cell_of : C8.Cal P w K mg base 2 "_cell_of" (spCellOf CM CH) []) (cput : C8.Met P w K mg base 2 CH "put" (spPut CH) []) (F : Fun K "_meet_update" "_meet_update" sMtUpd f fd) (b : Binds K fd ["machine", "frame", "word"] []) (hm : mg "_meet_update" = some (.ref f)) : C8.Cal P w K mg base 4 "_meet_update" (spMt K CM CH fun f => ∃ a, f = .upd a) [] := by
  refine cal_of F hm b scMtUpd (fun vs H Q E h => ?_) (fun cdv A outer s H vs Q E hr h => ?_)
  · obtain ⟨p, m, m', nv, gv, co, x, fs, f, n, rfl, _⟩ := h
    rfl
  obtain ⟨p, m, m', nv, gv, co, x, fs, fm, n, rfl, ⟨a0, rfl⟩, M, hF, hgv, hmt, hsm, q⟩ := h
  refine ⟨_, (pss_cons (ps_expr (C8.pe_mt cput hr (by decide) (pe_fld (pv 0) rfl) (pa_cons (pe_ix ix_tup (pv 1) pe_int (fun _ _ => rfl)) (pa_cons (pe_tup (pa_cons pe_str (pa_cons (pv 2) pa_nil))) pa_nil))))
    (pss_one (ps_ret (pe_tup (pa_cons pe_str (pa_cons (pv 2) pa_nil)))))), ?_⟩
  have stuckQ : ∀ {H1 : Hp}, Same H H1 → n = .stuck → m' = m → Q (.ref aS) H1 := fun s1 e1 e2 => by
    subst e1 e2
    exact q _ _ (KeepM.same s1) (M.same s1) ⟨aS, rfl, T.sSTUCK _⟩
  obtain ⟨ga, gxs, rfl, hga, x1, ys1, rfl, ⟨rfl, _⟩, y2, zs2, rfl, hy2, hn⟩ := hgv
  cases (show y2 = .int a0 from hy2)
  cases hmt with
  | @upd _ a _ c hc =>
    obtain ⟨dx, ho⟩ := M.o
    obtain ⟨⟨dy, hho⟩, _⟩ := id M.h
    refine ⟨_, rfl, p.mo, CM, dx, _, .ref p.ho, rfl, ho, T.cl, T.n_heap, fM_heap .., p.ho, dy, _, rfl, hho, fldH_no_put .., _, rfl, ga, _, 1, _, rfl, rfl, SqT.of hga, at1 _ _ _, _, rfl, by show 2 ≤ sizeLine; decide, fun t2 ht2 => ?_⟩
    have s2 := same_new ht2 (.tup [.str "on", .int x])
    have M2 := M.same s2
    refine ⟨p, m.cs, a, _, .on x, c, rfl, M2.h, M2.ok.2.2.2.2.2.1, hc, at_tup upd_same (ats_cons (at_str' (by decide +kernel)) (ats_cons rfl ats_nil)), Nat.le_trans hsm.c (by decide), fun H3 k3 h3 => ?_⟩
    obtain ⟨M3, km3, f3⟩ := M2.cells h3 k3
    refine ⟨_, rfl, by show 2 ≤ sizeLine; decide, fun t ht => ?_⟩
    have s4 := same_new ht (.tup [.str "value", .int x])
    exact q _ _ (((KeepM.same s2).trans km3).trans (KeepM.same s4)) (M3.same s4) (at_tup upd_same (ats_cons (at_str' (by decide +kernel)) (ats_cons rfl ats_nil)))
abbrev sMtSeq : Stmt := topS 51
theorem scMtSeq : FnScope ["machine", "frame", "word", "_", "body", "words"] ["machine", "frame", "word"] (defScope sMtSeq) := ⟨rfl, rfl, rfl, by decide +kernel, rfl, by decide +kernel, by decide +kernel⟩
theorem c_meet_seq {f : Addr} {fd : FuncData} (T : TxtMt K mg CM aS) (c_cell_of : C8.Cal P w K mg base 2 "_cell_of" (spCellOf CM CH) [])  (F : Fun K "_meet_seq" "_meet_seq" sMtSeq f fd) (b : Binds K fd ["machine", "frame", "word"] []) (hm : mg "_meet_seq" = some (.ref f)) : C8.Cal P w K mg base 4 "_meet_seq" (spMt K CM CH fun f => ∃ b ws, f = .seq b ws) [] := by
  refine cal_of F hm b scMtSeq (fun vs H Q E h => ?_) (fun cdv A outer s H vs Q E hr h => ?_)
  · obtain ⟨p, m, m', nv, gv, co, x, fs, f, n, rfl, _⟩ := h
    rfl
  obtain ⟨p, m, m', nv, gv, co, x, fs, fm, n, rfl, ⟨b0, ws, rfl⟩, M, hF, hgv, hmt, hsm, q⟩ := h
  refine ⟨_, (pss_cons (ps_asg (pv 1) (pg_tup rfl (pgs_cons (pg_name (i := 3) scMtSeq.nd rfl (Or.inl rfl)) (pgs_cons (pg_name (i := 4) scMtSeq.nd rfl (Or.inl rfl)) (pgs_cons (pg_name (i := 5) scMtSeq.nd rfl (Or.inl rfl)) pgs_nil)))))
    (pss_one (ps_ret (pe_tup (pa_cons pe_str (pa_cons (pv 4) (pa_cons (pe_tup (StX.pa_star (pv 5) (pa_cons (pv 2) pa_nil))) pa_nil))))))), ?_⟩
  have stuckQ : ∀ {H1 : Hp}, Same H H1 → n = .stuck → m' = m → Q (.ref aS) H1 := fun s1 e1 e2 => by
    subst e1 e2
    exact q _ _ (KeepM.same s1) (M.same s1) ⟨aS, rfl, T.sSTUCK _⟩
  obtain ⟨ga, gxs, rfl, hga, x1, ys1, rfl, ⟨rfl, _⟩, y2, zs2, rfl, hy2, y3, zs3, rfl, hy3, hn⟩ := hgv
  cases (show zs3 = [] from hn)
  obtain ⟨wa, rfl, hwa⟩ := ws_at hy3
  cases hmt with
  | seq hwl =>
    refine ⟨_, rfl, ga, _, rfl, SqT.of hga, rfl, _, _, rfl, _, _, rfl, _, _, rfl, rfl, ?_⟩
    refine ⟨_, rfl, _, rfl, wa, _, rfl, .inl (SqT.of hwa), _, rfl, by show (ws.map V.int ++ [V.int x]).length ≤ sizeLine; rw [List.length_append, List.length_map]; exact Nat.le_of_lt (szl (by show ws.length + 1 ≤ _; omega)), fun t1 ht1 => ⟨by show 3 ≤ sizeLine; decide, fun t2 ht2 => ?_⟩⟩
    have s1 := same_new ht1 (.tup (ws.map V.int ++ [.int x]))
    have e1 : upd H t1 (.tup (ws.map V.int ++ [.int x])) t1 = some (.tup ((ws ++ [x]).map V.int)) := by rw [upd_same, List.map_append]; rfl
    have s2 := same_new ht2 (.tup [.str "eval", y2, .ref t1])
    have s12 := sameT s1 s2
    exact q _ _ (KeepM.same s12) (M.same s12) (at_tup upd_same (ats_cons (at_str' (by decide +kernel)) (ats_cons (hy2.keep (fr_same s12)) (ats_cons (ws_of (s2 _ _ e1)) ats_nil))))
abbrev sMtRight : Stmt := topS 52
theorem scMtRight : FnScope ["machine", "frame", "word", "_", "sign", "operand", "words", "cell"] ["machine", "frame", "word"] (defScope sMtRight) := ⟨rfl, rfl, rfl, by decide +kernel, rfl, by decide +kernel, by decide +kernel⟩
theorem c_meet_right {f : Addr} {fd : FuncData} (T : TxtMt K mg CM aS) (c_cell_of : C8.Cal P w K mg base 2 "_cell_of" (spCellOf CM CH) []) (cword_of : C8.Cal P w K mg base 1 "word_of" spWordOf []) (F : Fun K "_meet_right" "_meet_right" sMtRight f fd) (b : Binds K fd ["machine", "frame", "word"] []) (hm : mg "_meet_right" = some (.ref f)) : C8.Cal P w K mg base 4 "_meet_right" (spMt K CM CH fun f => ∃ s o ws, f = .right s o ws) [] := by
  refine cal_of F hm b scMtRight (fun vs H Q E h => ?_) (fun cdv A outer s H vs Q E hr h => ?_)
  · obtain ⟨p, m, m', nv, gv, co, x, fs, f, n, rfl, _⟩ := h
    rfl
  obtain ⟨p, m, m', nv, gv, co, x, fs, fm, n, rfl, ⟨s0, o0, ws, rfl⟩, M, hF, hgv, hmt, hsm, q⟩ := h
  refine ⟨_, (pss_cons (ps_asg (pv 1) (pg_tup rfl (pgs_cons (pg_name (i := 3) scMtRight.nd rfl (Or.inl rfl)) (pgs_cons (pg_name (i := 4) scMtRight.nd rfl (Or.inl rfl)) (pgs_cons (pg_name (i := 5) scMtRight.nd rfl (Or.inl rfl)) (pgs_cons (pg_name (i := 6) scMtRight.nd rfl (Or.inl rfl)) pgs_nil))))))
    (pss_cons (ps_set (i := 7) scMtRight.nd rfl (Or.inl rfl) (C8.pe_c c_cell_of hr (by decide) rfl (pa_cons (pv 0) (pa_cons (pv 2) pa_nil))))
    (pss_cons (ps_if (pt_cmpR op_ne (pe_ix ix_tup (pv 7) pe_int (fun _ _ => rfl)) pe_str (nomark _))
      (pss_one (ps_ret (C8.pe_gc rfl T.gSTUCK)))
      pss_nil)
    (pss_cons (ps_expr (pe_bm PySem.F.plainAttrs_list PySem.F.slot_list_append PySem.F.type_list_append mt_append (pe_fld (pv 0) rfl) (pa_cons (pe_tup (pa_cons pe_str (pa_cons (pv 4) (pa_cons (pe_ix ix_tup (pv 7) pe_int (fun _ _ => rfl)) pa_nil)))) pa_nil)))
    (pss_one (ps_ret (pe_tup (pa_cons pe_str (pa_cons (C8.pe_c cword_of hr (by decide) rfl (pa_cons (pv 5) (pa_cons (pv 6) pa_nil))) pa_nil))))))))), ?_⟩
  have stuckQ : ∀ {H1 : Hp}, Same H H1 → n = .stuck → m' = m → Q (.ref aS) H1 := fun s1 e1 e2 => by
    subst e1 e2
    exact q _ _ (KeepM.same s1) (M.same s1) ⟨aS, rfl, T.sSTUCK _⟩
  obtain ⟨ga, gxs, rfl, hga, x1, ys1, rfl, ⟨rfl, _⟩, y2, zs2, rfl, ⟨rfl, hsl⟩, y3, zs3, rfl, hy3, y4, zs4, rfl, hy4, hn⟩ := hgv
  cases (show zs4 = [] from hn)
  refine ⟨_, rfl, ga, _, rfl, SqT.of hga, rfl, _, _, rfl, _, _, rfl, _, _, rfl, _, _, rfl, rfl, ?_⟩
  cases hmt with
  | rightNo hv hne =>
    refine ⟨_, rfl, _, rfl, p, m, nv, co, x, _, rfl, M, hv, fun cv H1 s1 hcv => ?_⟩
    obtain ⟨ca, cxs, rfl, hca⟩ := vl_word hcv
    refine ⟨_, rfl, ca, _, 0, _, rfl, rfl, SqT.of hca, at0 _ _, rfl, _, rfl, ?_⟩
    exact nno hne (stuckQ s1 rfl rfl)
  | @right _ n0 v0 _ _ _ _ hv hop hz =>
    refine ⟨_, rfl, _, rfl, p, m, nv, co, x, _, rfl, M, hv, fun cv H1 s1 hcv => ?_⟩
    obtain ⟨ca, rfl, hca⟩ := vl_num hcv
    refine ⟨_, rfl, ca, _, 0, _, rfl, rfl, SqT.of hca, at0 _ _, rfl, _, rfl, ?_⟩
    refine nyes ?_
    have M1 := M.same s1
    obtain ⟨dx, ho⟩ := M1.o
    obtain ⟨ss, hss, hsz⟩ := stk_len M1 hsm
    refine ⟨_, rfl, p.mo, CM, dx, _, .ref p.sa, rfl, ho, T.cl, T.n_stack, fM_stack .., .inl ⟨rfl, _, SqL.of hss⟩, _, rfl, _, rfl, ca, _, 1, _, rfl, rfl, SqT.of hca, at1 _ _ _, by show 3 ≤ sizeLine; decide, fun t2 ht2 => ?_⟩
    have s2 := same_new ht2 (.tup [.str "prim", .str s0, .int n0])
    have hev : (Fm.prim s0 n0).D.At F0 (upd H1 t2 (.tup [.str "prim", .str s0, .int n0])) (.ref t2) := at_tup upd_same (ats_cons (at_str' (by decide +kernel)) (ats_cons (at_str' hz) (ats_cons rfl ats_nil)))
    generalize upd H1 t2 (.tup [.str "prim", .str s0, .int n0]) = H2 at s2 hev ⊢
    refine ⟨p.sa, _, _, rfl, rfl, s2 _ _ hss, hsz, ?_⟩
    obtain ⟨M3, k3, f3⟩ := (M1.same s2).push (s2 _ _ hss) hev
    generalize upd H2 p.sa (.lst (ss ++ [.ref t2])) = H3 at M3 k3 f3 ⊢
    have fA : Fr F0 H H3 := (fr_same (sameT s1 s2)).trans f3
    refine ⟨_, rfl, _, rfl, y3, y4, o0, ws, v0, rfl, hy3.keep fA, hy4.keep fA, hop, by show 2 ≤ sizeLine; decide, fun t ht => ?_⟩
    have s4 := same_new ht (.tup [.str "enter", .int v0])
    exact q _ _ (((KeepM.same (sameT s1 s2)).trans k3).trans (KeepM.same s4)) (M3.same s4) (at_tup upd_same (ats_cons (at_str' (by decide +kernel)) (ats_cons rfl ats_nil)))
abbrev sMtPrim : Stmt := topS 53
theorem scMtPrim : FnScope ["machine", "frame", "word", "_", "sign", "number", "cell", "result"] ["machine", "frame", "word"] (defScope sMtPrim) := ⟨rfl, rfl, rfl, by decide +kernel, rfl, by decide +kernel, by decide +kernel⟩
theorem c_meet_prim {f : Addr} {fd : FuncData} (T : TxtMt K mg CM aS) (c_cell_of : C8.Cal P w K mg base 2 "_cell_of" (spCellOf CM CH) []) (cmake : C8.Met P w K mg base 2 CH "make" (spMake CH) []) (c_fault : C8.Cal P w K mg base 1 "_fault" (spFault CM CH) []) (cprim_result : C8.Cal P w K mg base 2 "prim_result" (spPrimR K) []) (F : Fun K "_meet_prim" "_meet_prim" sMtPrim f fd) (b : Binds K fd ["machine", "frame", "word"] []) (hm : mg "_meet_prim" = some (.ref f)) : C8.Cal P w K mg base 4 "_meet_prim" (spMt K CM CH fun f => ∃ s i, f = .prim s i) [] := by
  refine cal_of F hm b scMtPrim (fun vs H Q E h => ?_) (fun cdv A outer s H vs Q E hr h => ?_)
  · obtain ⟨p, m, m', nv, gv, co, x, fs, f, n, rfl, _⟩ := h
    rfl
  obtain ⟨p, m, m', nv, gv, co, x, fs, fm, n, rfl, ⟨s0, i0, rfl⟩, M, hF, hgv, hmt, hsm, q⟩ := h
  refine ⟨_, (pss_cons (ps_asg (pv 1) (pg_tup rfl (pgs_cons (pg_name (i := 3) scMtPrim.nd rfl (Or.inl rfl)) (pgs_cons (pg_name (i := 4) scMtPrim.nd rfl (Or.inl rfl)) (pgs_cons (pg_name (i := 5) scMtPrim.nd rfl (Or.inl rfl)) pgs_nil)))))
    (pss_cons (ps_set (i := 6) scMtPrim.nd rfl (Or.inl rfl) (C8.pe_c c_cell_of hr (by decide) rfl (pa_cons (pv 0) (pa_cons (pv 2) pa_nil))))
    (pss_cons (ps_if (pt_cmpR op_ne (pe_ix ix_tup (pv 6) pe_int (fun _ _ => rfl)) pe_str (nomark _))
      (pss_one (ps_ret (C8.pe_gc rfl T.gSTUCK)))
      pss_nil)
    (pss_cons (ps_set (i := 7) scMtPrim.nd rfl (Or.inl rfl) (C8.pe_c cprim_result hr (by decide) rfl (pa_cons (pv 4) (pa_cons (pv 5) (pa_cons (pe_ix ix_tup (pv 6) pe_int (fun _ _ => rfl)) pa_nil)))))
    (pss_cons (ps_if (pt_cmpR op_eq (pe_ix ix_tup (pv 7) pe_int (fun _ _ => rfl)) pe_str (nomark _))
      (pss_one (ps_ret (C8.pe_c c_fault hr (by decide) rfl (pa_cons (pv 0) (pa_cons (pe_ix ix_tup (pv 7) pe_int (fun _ _ => rfl)) pa_nil)))))
      pss_nil)
    (pss_cons (ps_if (pt_cmpR op_eq (pe_ix ix_tup (pv 7) pe_int (fun _ _ => rfl)) pe_str (nomark _))
      (pss_one (ps_ret (pe_tup (pa_cons pe_str (pa_cons (pe_op op_add (pe_op op_mul pe_int (pe_ix ix_tup (pv 7) pe_int (fun _ _ => rfl))) pe_int) pa_nil)))))
      pss_nil)
    (pss_one (ps_ret (pe_tup (pa_cons pe_str (pa_cons (pe_op op_mul pe_int (C8.pe_mt cmake hr (by decide) (pe_fld (pv 0) rfl) (pa_cons (pv 7) pa_nil))) pa_nil))))))))))), ?_⟩
  have stuckQ : ∀ {H1 : Hp}, Same H H1 → n = .stuck → m' = m → Q (.ref aS) H1 := fun s1 e1 e2 => by
    subst e1 e2
    exact q _ _ (KeepM.same s1) (M.same s1) ⟨aS, rfl, T.sSTUCK _⟩
  obtain ⟨ga, gxs, rfl, hga, x1, ys1, rfl, ⟨rfl, _⟩, y2, zs2, rfl, ⟨rfl, hsl⟩, y3, zs3, rfl, hy3, hn⟩ := hgv
  cases (show zs3 = [] from hn)
  cases (show y3 = .int i0 from hy3)
  refine ⟨_, rfl, ga, _, rfl, SqT.of hga, rfl, _, _, rfl, _, _, rfl, _, _, rfl, rfl, ?_⟩
  cases hmt with
  | primNo hv hne =>
    refine ⟨_, rfl, _, rfl, p, m, nv, co, x, _, rfl, M, hv, fun cv H1 s1 hcv => ?_⟩
    obtain ⟨ca, cxs, rfl, hca⟩ := vl_word hcv
    refine ⟨_, rfl, ca, _, 0, _, rfl, rfl, SqT.of hca, at0 _ _, rfl, _, rfl, ?_⟩
    exact nno hne (stuckQ s1 rfl rfl)
  | @primT _ _ j0 _ bb _ hv hsg hi hj hpr =>
    refine ⟨_, rfl, _, rfl, p, m, nv, co, x, _, rfl, M, hv, fun cv H1 s1 hcv => ?_⟩
    obtain ⟨ca, rfl, hca⟩ := vl_num hcv
    refine ⟨_, rfl, ca, _, 0, _, rfl, rfl, SqT.of hca, at0 _ _, rfl, _, rfl, ?_⟩
    refine nyes ?_
    have M1 := M.same s1
    obtain ⟨dx, ho⟩ := M1.o
    refine ⟨_, rfl, _, rfl, _, rfl, ca, _, 1, _, rfl, rfl, SqT.of hca, at1 _ _ _, s0, i0, j0, rfl, hsg, hi, hj, fun v2 H2 s2 hr2 => ?_⟩
    rw [hpr] at hr2
    have M2 := M1.same s2
    obtain ⟨ra, ru, rfl, hra, hru⟩ := hr2
    refine ⟨_, rfl, ra, _, 0, _, rfl, rfl, SqT.of hra, at0 _ _, rfl, _, rfl, ?_⟩
    refine iteF ?_
    refine ⟨_, rfl, ra, _, 0, _, rfl, rfl, SqT.of hra, at0 _ _, rfl, _, rfl, ?_⟩
    refine iteF ?_
    obtain ⟨dx2, ho2⟩ := M2.o
    obtain ⟨⟨dy2, hho2⟩, _⟩ := id M2.h
    refine ⟨_, rfl, p.mo, CM, dx2, _, .ref p.ho, rfl, ho2, T.cl, T.n_heap, fM_heap .., p.ho, dy2, _, rfl, hho2, fldH_no_make .., _, rfl, p, m.cs, _, .con (if bb = true then 1 else 0) [], rfl, M2.h, M2.ok.2.2.2.2.2.1, at_tup hra (ats_cons (at_str' (by decide +kernel)) (ats_cons rfl (ats_cons (ws_of (ws := []) hru) ats_nil))), Nat.le_trans hsm.c (by decide), fun H3 k3 h3 => ?_⟩
    obtain ⟨M3, km3, f3⟩ := M2.cells h3 k3
    refine ⟨_, _, rfl, rfl, .inl ⟨by decide, by decide⟩, by show 2 ≤ sizeLine; decide, fun t ht => ?_⟩
    have s4 := same_new ht (.tup [.str "value", .int (2 * (m.cs.length : Int))])
    exact q _ _ (((KeepM.same (sameT s1 s2)).trans km3).trans (KeepM.same s4)) (M3.same s4) (at_tup upd_same (ats_cons (at_str' (by decide +kernel)) (ats_cons rfl ats_nil)))
  | @primN _ _ j0 x0 _ _ hv hsg hi hj hpr =>
    refine ⟨_, rfl, _, rfl, p, m, nv, co, x, _, rfl, M, hv, fun cv H1 s1 hcv => ?_⟩
    obtain ⟨ca, rfl, hca⟩ := vl_num hcv
    refine ⟨_, rfl, ca, _, 0, _, rfl, rfl, SqT.of hca, at0 _ _, rfl, _, rfl, ?_⟩
    refine nyes ?_
    have M1 := M.same s1
    obtain ⟨dx, ho⟩ := M1.o
    refine ⟨_, rfl, _, rfl, _, rfl, ca, _, 1, _, rfl, rfl, SqT.of hca, at1 _ _ _, s0, i0, j0, rfl, hsg, hi, hj, fun v2 H2 s2 hr2 => ?_⟩
    rw [hpr] at hr2
    have M2 := M1.same s2
    obtain ⟨ra, rfl, hra⟩ := hr2
    refine ⟨_, rfl, ra, _, 0, _, rfl, rfl, SqT.of hra, at0 _ _, rfl, _, rfl, ?_⟩
    refine iteF ?_
    refine ⟨_, rfl, ra, _, 0, _, rfl, rfl, SqT.of hra, at0 _ _, rfl, _, rfl, ?_⟩
    refine iteT ?_
    refine ⟨_, rfl, ra, _, 1, _, rfl, rfl, SqT.of hra, at1 _ _ _, _, _, rfl, rfl, .inl ⟨by decide, by decide⟩, _, _, rfl, rfl, by show 2 ≤ sizeLine; decide, fun t ht => ?_⟩
    have s4 := same_new ht (.tup [.str "value", .int (2 * x0 + 1)])
    exact q _ _ ((KeepM.same (sameT s1 s2)).trans (KeepM.same s4)) (M2.same s4) (at_tup upd_same (ats_cons (at_str' (by decide +kernel)) (ats_cons rfl ats_nil)))
  | @primF _ _ j0 _ ft _ hv hsg hi hj hpr hfl =>
    refine ⟨_, rfl, _, rfl, p, m, nv, co, x, _, rfl, M, hv, fun cv H1 s1 hcv => ?_⟩
    obtain ⟨ca, rfl, hca⟩ := vl_num hcv
    refine ⟨_, rfl, ca, _, 0, _, rfl, rfl, SqT.of hca, at0 _ _, rfl, _, rfl, ?_⟩
    refine nyes ?_
    have M1 := M.same s1
    obtain ⟨dx, ho⟩ := M1.o
    refine ⟨_, rfl, _, rfl, _, rfl, ca, _, 1, _, rfl, rfl, SqT.of hca, at1 _ _ _, s0, i0, j0, rfl, hsg, hi, hj, fun v2 H2 s2 hr2 => ?_⟩
    rw [hpr] at hr2
    have M2 := M1.same s2
    obtain ⟨ra, rfl, hra⟩ := hr2
    refine ⟨_, rfl, ra, _, 0, _, rfl, rfl, hra, at0 _ _, rfl, _, rfl, ?_⟩
    refine iteT ?_
    exact ⟨_, rfl, _, rfl, ra, _, 1, _, rfl, rfl, hra, at1 _ _ _, p, m, nv, co, ft, rfl, M2, hsm, hfl, fun v' H' k' M' hv' => q _ _ ((KeepM.same (sameT s1 s2)).trans k') M' hv'⟩
end
end Toy

set_option Elab.async false
set_option linter.all false
set_option maxRecDepth 100000
set_option maxHeartbeats 4000000
/-! Part L: meetings: apply, case, pick; the size that a meeting needs. -/
namespace Toy
open PySem L2
open PyProof.Rows (envOfC)
theorem noPart {σ : L2.St} {H : Hp} {Q : Option Int → Hp → Prop} (h : Q none H) : tNoPart σ H Q := h
section
variable {P : Program} {w : World} {K : PySem.W.Frag} {mg : Str → Option Value} {base : Heap} {CM CH aS aC : Addr}
abbrev sMtApply : Stmt := topS 47
theorem scMtApply : FnScope ["machine", "frame", "word", "cell", "_", "index", "words", "arity", "body"] ["machine", "frame", "word"] (defScope sMtApply) := ⟨rfl, rfl, rfl, by decide +kernel, rfl, by decide +kernel, by decide +kernel⟩
theorem c_meet_apply {f : Addr} {fd : FuncData} (T : TxtMt K mg CM aS) (c_cell_of : C8.Cal P w K mg base 2 "_cell_of" (spCellOf CM CH) []) (cmake : C8.Met P w K mg base 2 CH "make" (spMake CH) []) (c_is_partial : C8.Cal P w K mg base 1 "_is_partial" (spIsPart CM CH) []) (F : Fun K "_meet_apply" "_meet_apply" sMtApply f fd) (b : Binds K fd ["machine", "frame", "word"] []) (hm : mg "_meet_apply" = some (.ref f)) : C8.Cal P w K mg base 4 "_meet_apply" (spMt K CM CH fun f => ∃ ws, f = .apply ws) [] := by
  refine cal_of F hm b scMtApply (fun vs H Q E h => ?_) (fun cdv A outer s H vs Q E hr h => ?_)
  · obtain ⟨p, m, m', nv, gv, co, x, fs, f, n, rfl, _⟩ := h
    rfl
  obtain ⟨p, m, m', nv, gv, co, x, fs, fm, n, rfl, ⟨ws, rfl⟩, M, hF, hgv, hmt, hsm, q⟩ := h
  refine ⟨_, (pss_cons (ps_set (i := 3) scMtApply.nd rfl (Or.inl rfl) (C8.pe_c c_cell_of hr (by decide) rfl (pa_cons (pv 0) (pa_cons (pv 2) pa_nil))))
    (pss_cons (ps_if (pt_cmpR op_ne (pe_ix ix_tup (pv 3) pe_int (fun _ _ => rfl)) pe_str (nomark _))
      (pss_one (ps_ret (C8.pe_gc rfl T.gSTUCK)))
      pss_nil)
    (pss_cons (ps_asg (pv 3) (pg_tup rfl (pgs_cons (pg_name (i := 4) scMtApply.nd rfl (Or.inl rfl)) (pgs_cons (pg_name (i := 5) scMtApply.nd rfl (Or.inl rfl)) (pgs_cons (pg_name (i := 6) scMtApply.nd rfl (Or.inl rfl)) pgs_nil)))))
    (pss_cons (ps_aug (i := 6) scMtApply.nd rfl (Or.inl rfl) (pe_ix ix_tup (pv 1) pe_int (fun _ _ => rfl)) ip_catA)
    (pss_cons (ps_if (pt_val (C8.pe_c c_is_partial hr (by decide) rfl (pa_cons (pv 0) (pa_cons (pv 3) (pa_cons (pv 1) pa_nil)))))
      (pss_one (ps_ret (pe_tup (pa_cons pe_str (pa_cons (pe_op op_mul pe_int (C8.pe_mt cmake hr (by decide) (pe_fld (pv 0) rfl) (pa_cons (pe_tup (pa_cons pe_str (pa_cons (pv 5) (pa_cons (pv 6) pa_nil)))) pa_nil))) pa_nil)))))
      pss_nil)
    (pss_cons (ps_asg (pe_ix ix_tup (pe_fld (pv 0) rfl) (pv 5) (fun _ _ => rfl)) (pg_tup rfl (pgs_cons (pg_name (i := 7) scMtApply.nd rfl (Or.inl rfl)) (pgs_cons (pg_name (i := 8) scMtApply.nd rfl (Or.inl rfl)) pgs_nil))))
    (pss_cons (ps_if (pt_cmpR op_gt (pe_callB call_len_seq rfl T.zlen PySem.boot_len (pa_cons (pv 6) pa_nil)) (pv 7) (nomark _))
      (pss_one (ps_expr (pe_bm PySem.F.plainAttrs_list PySem.F.slot_list_append PySem.F.type_list_append mt_append (pe_fld (pv 0) rfl) (pa_cons (pe_tup (pa_cons pe_str (pa_cons (pe_slice sl_tupA (pv 6) (po_some (pv 7)) po_none) pa_nil))) pa_nil))))
      pss_nil)
    (pss_one (ps_ret (pe_tup (pa_cons pe_str (pa_cons (pv 8) (pa_cons (pe_slice sl_tupA (pv 6) po_none (po_some (pv 7))) pa_nil))))))))))))), ?_⟩
  have stuckQ : ∀ {H1 : Hp}, Same H H1 → n = .stuck → m' = m → Q (.ref aS) H1 := fun s1 e1 e2 => by
    subst e1 e2
    exact q _ _ (KeepM.same s1) (M.same s1) ⟨aS, rfl, T.sSTUCK _⟩
  obtain ⟨ga, gxs, rfl, hga, x1, ys1, rfl, ⟨rfl, _⟩, y2, zs2, rfl, hy2, hn⟩ := hgv
  obtain ⟨gu, rfl, hgu⟩ := ws_at hy2
  cases (show zs2 = [] from hn)
  cases hmt with
  | applyNo hv hne =>
    refine ⟨_, rfl, _, rfl, p, m, nv, co, x, _, rfl, M, hv, fun cv H1 s1 hcv => ?_⟩
    obtain ⟨ca, cxs, rfl, hca⟩ := vl_word hcv
    refine ⟨_, rfl, ca, _, 0, _, rfl, rfl, SqT.of hca, at0 _ _, rfl, _, rfl, ?_⟩
    exact nno hne (stuckQ s1 rfl rfl)
  | @part _ ar0 i0 bd us _ _ hv hfi hlt hle =>
    refine ⟨_, rfl, _, rfl, p, m, nv, co, x, _, rfl, M, hv, fun cv H1 s1 hcv => ?_⟩
    obtain ⟨ca, cu, rfl, hca, hcu⟩ := vl_part hcv
    refine ⟨_, rfl, ca, _, 0, _, rfl, rfl, SqT.of hca, at0 _ _, rfl, _, rfl, ?_⟩
    refine nyes ?_
    refine ⟨_, rfl, ca, _, rfl, SqT.of hca, rfl, _, _, rfl, _, _, rfl, _, _, rfl, rfl, ?_⟩
    have hga1 := s1 _ _ hga
    have hgu1 := s1 _ _ hgu
    refine ⟨_, rfl, _, rfl, ga, _, 1, _, rfl, rfl, SqT.of hga1, at1 _ _ _, catA_tup hcu hgu1 (by rw [List.length_map, List.length_map, ← List.length_append]; exact Nat.le_of_lt (szl (by omega))) fun u H2 s2 hu2 => ?_⟩
    rw [← List.map_append] at hu2
    have s12 := sameT s1 s2
    have M2 := M.same s12
    obtain ⟨dx, ho⟩ := M2.o
    have hgv2 : (Fm.apply ws).D.At F0 H2 (.ref ga) := at_tup (s12 _ _ hga) (ats_cons (at_str' (by decide +kernel)) (ats_cons (ws_of (s12 _ _ hgu)) ats_nil))
    refine ⟨_, rfl, _, rfl, _, rfl, p, m, nv, .ref ca, .ref ga, co, _, fs, i0, us, ws, bd, rfl, M2, hF.keep (fr_same s12), hcv.keep (fr_same s2), hgv2, hfi, ?_⟩
    refine ⟨_, rfl, ?_⟩
    rw [show decide (((us.length + ws.length : Nat) : Int) < ar0) = true from decide_eq_true (by rw [List.length_append] at hlt; exact hlt)]
    refine iteT ?_
    obtain ⟨⟨dy, hho⟩, _⟩ := id M2.h
    refine ⟨_, rfl, p.mo, CM, dx, _, .ref p.ho, rfl, ho, T.cl, T.n_heap, fM_heap .., p.ho, dy, _, rfl, hho, fldH_no_make .., _, rfl, _, rfl, by show 3 ≤ sizeLine; decide, fun t3 ht3 => ?_⟩
    have s3 := same_new ht3 (.tup [.str "part", .int (i0 : Int), .ref u])
    have M3 := M2.same s3
    refine ⟨p, m.cs, _, .part (i0 : Int) (us ++ ws), rfl, M3.h, M3.ok.2.2.2.2.2.1, at_tup upd_same (ats_cons (at_str' (by decide +kernel)) (ats_cons rfl (ats_cons (ws_of (s3 _ _ hu2)) ats_nil))), Nat.le_trans hsm.c (by decide), fun H4 k4 h4 => ?_⟩
    obtain ⟨M4, km4, f4⟩ := M3.cells h4 k4
    refine ⟨_, _, rfl, rfl, .inl ⟨by decide, by decide⟩, by show 2 ≤ sizeLine; decide, fun t ht => ?_⟩
    have s5 := same_new ht (.tup [.str "value", .int (2 * (m.cs.length : Int))])
    exact q _ _ (((KeepM.same (sameT s12 s3)).trans km4).trans (KeepM.same s5)) (M4.same s5) (at_tup upd_same (ats_cons (at_str' (by decide +kernel)) (ats_cons rfl ats_nil)))
  | @full _ ar0 i0 bd us _ _ hv hfi hlt hle =>
    refine ⟨_, rfl, _, rfl, p, m, nv, co, x, _, rfl, M, hv, fun cv H1 s1 hcv => ?_⟩
    obtain ⟨ca, cu, rfl, hca, hcu⟩ := vl_part hcv
    refine ⟨_, rfl, ca, _, 0, _, rfl, rfl, SqT.of hca, at0 _ _, rfl, _, rfl, ?_⟩
    refine nyes ?_
    refine ⟨_, rfl, ca, _, rfl, SqT.of hca, rfl, _, _, rfl, _, _, rfl, _, _, rfl, rfl, ?_⟩
    have hga1 := s1 _ _ hga
    have hgu1 := s1 _ _ hgu
    refine ⟨_, rfl, _, rfl, ga, _, 1, _, rfl, rfl, SqT.of hga1, at1 _ _ _, catA_tup hcu hgu1 (by rw [List.length_map, List.length_map, ← List.length_append]; exact Nat.le_of_lt (szl (by omega))) fun u H2 s2 hu2 => ?_⟩
    rw [← List.map_append] at hu2
    have s12 := sameT s1 s2
    have M2 := M.same s12
    obtain ⟨dx, ho⟩ := M2.o
    have hgv2 : (Fm.apply ws).D.At F0 H2 (.ref ga) := at_tup (s12 _ _ hga) (ats_cons (at_str' (by decide +kernel)) (ats_cons (ws_of (s12 _ _ hgu)) ats_nil))
    refine ⟨_, rfl, _, rfl, _, rfl, p, m, nv, .ref ca, .ref ga, co, _, fs, i0, us, ws, bd, rfl, M2, hF.keep (fr_same s12), hcv.keep (fr_same s2), hgv2, hfi, ?_⟩
    refine ⟨_, rfl, ?_⟩
    rw [show decide (((us.length + ws.length : Nat) : Int) < (ar0 : Int)) = false from decide_eq_false (by rw [List.length_append] at hlt; omega)]
    refine iteF ?_
    obtain ⟨fa, fxs, hfv, hfa, hfx⟩ := hF.keep (fr_same s12)
    obtain ⟨ft, bv, hft, hft2, hbv⟩ := FsAt.get (a := fa) hfx hfi
    rw [hfv] at ho
    refine ⟨_, rfl, p.mo, CM, dx, _, _, rfl, ho, T.cl, T.n_functions, fM_functions .., _, rfl, fa, _, _, _, rfl, rfl, SqT.of hfa, atI_nat hft, ?_⟩
    refine ⟨ft, _, rfl, SqT.of hft2, rfl, _, _, rfl, _, _, rfl, rfl, ?_⟩
    rw [← hfv] at ho
    refine ⟨_, rfl, u, _, rfl, .inr (SqT.of hu2), _, rfl, _, _, rfl, rfl, _, rfl, ?_⟩
    rw [show decide (((((us ++ ws).map V.int).length : Nat) : Int) > (ar0 : Int)) = false from decide_eq_false (by rw [List.length_map]; omega)]
    refine iteF ?_
    refine ⟨_, rfl, _, rfl, _, rfl, _, rfl, slA_tup hu2 fun u3 H3 s3 hu3 => ⟨by show 3 ≤ sizeLine; decide, fun t ht => ?_⟩⟩
    rw [cut_to _ _ (by rw [List.length_map]; omega), ← List.map_take, ← hlt, List.take_length] at hu3
    have s4 := same_new ht (.tup [.str "eval", bv, .ref u3])
    have sA := sameT s12 (sameT s3 s4)
    exact q _ _ (KeepM.same sA) (M.same sA) (at_tup upd_same (ats_cons (at_str' (by decide +kernel)) (ats_cons ((hbv.keep (fr_same s3)).keep (fr_same s4)) (ats_cons (ws_of (s4 _ _ hu3)) ats_nil))))
  | @over _ ar0 i0 bd us _ _ hv hfi hlt hle =>
    refine ⟨_, rfl, _, rfl, p, m, nv, co, x, _, rfl, M, hv, fun cv H1 s1 hcv => ?_⟩
    obtain ⟨ca, cu, rfl, hca, hcu⟩ := vl_part hcv
    refine ⟨_, rfl, ca, _, 0, _, rfl, rfl, SqT.of hca, at0 _ _, rfl, _, rfl, ?_⟩
    refine nyes ?_
    refine ⟨_, rfl, ca, _, rfl, SqT.of hca, rfl, _, _, rfl, _, _, rfl, _, _, rfl, rfl, ?_⟩
    have hga1 := s1 _ _ hga
    have hgu1 := s1 _ _ hgu
    refine ⟨_, rfl, _, rfl, ga, _, 1, _, rfl, rfl, SqT.of hga1, at1 _ _ _, catA_tup hcu hgu1 (by rw [List.length_map, List.length_map, ← List.length_append]; exact Nat.le_of_lt (szl (by omega))) fun u H2 s2 hu2 => ?_⟩
    rw [← List.map_append] at hu2
    have s12 := sameT s1 s2
    have M2 := M.same s12
    obtain ⟨dx, ho⟩ := M2.o
    have hgv2 : (Fm.apply ws).D.At F0 H2 (.ref ga) := at_tup (s12 _ _ hga) (ats_cons (at_str' (by decide +kernel)) (ats_cons (ws_of (s12 _ _ hgu)) ats_nil))
    refine ⟨_, rfl, _, rfl, _, rfl, p, m, nv, .ref ca, .ref ga, co, _, fs, i0, us, ws, bd, rfl, M2, hF.keep (fr_same s12), hcv.keep (fr_same s2), hgv2, hfi, ?_⟩
    refine ⟨_, rfl, ?_⟩
    rw [show decide (((us.length + ws.length : Nat) : Int) < (ar0 : Int)) = false from decide_eq_false (by rw [List.length_append] at hlt; omega)]
    refine iteF ?_
    obtain ⟨fa, fxs, hfv, hfa, hfx⟩ := hF.keep (fr_same s12)
    obtain ⟨ft, bv, hft, hft2, hbv⟩ := FsAt.get (a := fa) hfx hfi
    rw [hfv] at ho
    refine ⟨_, rfl, p.mo, CM, dx, _, _, rfl, ho, T.cl, T.n_functions, fM_functions .., _, rfl, fa, _, _, _, rfl, rfl, SqT.of hfa, atI_nat hft, ?_⟩
    refine ⟨ft, _, rfl, SqT.of hft2, rfl, _, _, rfl, _, _, rfl, rfl, ?_⟩
    rw [← hfv] at ho
    refine ⟨_, rfl, u, _, rfl, .inr (SqT.of hu2), _, rfl, _, _, rfl, rfl, _, rfl, ?_⟩
    rw [show decide (((((us ++ ws).map V.int).length : Nat) : Int) > (ar0 : Int)) = true from decide_eq_true (by rw [List.length_map]; omega)]
    refine iteT ?_
    obtain ⟨ss, hss, hsz⟩ := stk_len M2 hsm
    refine ⟨_, rfl, p.mo, CM, dx, _, .ref p.sa, rfl, ho, T.cl, T.n_stack, fM_stack .., .inl ⟨rfl, _, SqL.of hss⟩, _, rfl, _, rfl, _, rfl, noPart (slA_tup hu2 fun u3 H3 s3 hu3 => ⟨by show 2 ≤ sizeLine; decide, fun t4 ht4 => ?_⟩)⟩
    rw [cut_from _ _ (by rw [List.length_map]; omega), ← List.map_drop] at hu3
    have s4 := same_new ht4 (.tup [.str "apply", .ref u3])
    have s34 := sameT s3 s4
    have hev : (Fm.apply ((us ++ ws).drop ar0)).D.At F0 (upd H3 t4 (.tup [.str "apply", .ref u3])) (.ref t4) := at_tup upd_same (ats_cons (at_str' (by decide +kernel)) (ats_cons (ws_of (s4 _ _ hu3)) ats_nil))
    generalize upd H3 t4 (.tup [.str "apply", .ref u3]) = H4 at s4 s34 hev ⊢
    refine ⟨p.sa, _, _, rfl, rfl, s34 _ _ hss, hsz, ?_⟩
    obtain ⟨M5, k5, f5⟩ := (M2.same s34).push (s34 _ _ hss) hev
    generalize upd H4 p.sa (.lst (ss ++ [.ref t4])) = H5 at M5 k5 f5 ⊢
    refine ⟨_, rfl, _, rfl, _, rfl, _, rfl, slA_tup (f5.1 _ _ (s34 _ _ hu2)) fun u6 H6 s6 hu6 => ⟨by show 3 ≤ sizeLine; decide, fun t ht => ?_⟩⟩
    rw [cut_to _ _ (by rw [List.length_map]; omega), ← List.map_take] at hu6
    have s7 := same_new ht (.tup [.str "eval", bv, .ref u6])
    exact q _ _ (((KeepM.same (sameT s12 s34)).trans k5).trans (KeepM.same (sameT s6 s7))) (M5.same (sameT s6 s7)) (at_tup upd_same (ats_cons (at_str' (by decide +kernel)) (ats_cons (((hbv.keep (fr_same s34)).keep f5).keep (fr_same (sameT s6 s7))) (ats_cons (ws_of (s7 _ _ hu6)) ats_nil))))
abbrev sMtCase : Stmt := topS 48
theorem scMtCase : FnScope ["machine", "frame", "word", "_", "alternatives", "default", "words", "cell", "tag", "count", "body"] ["machine", "frame", "word"] (defScope sMtCase) := ⟨rfl, rfl, rfl, by decide +kernel, rfl, by decide +kernel, by decide +kernel⟩
theorem c_meet_case {f : Addr} {fd : FuncData} (T : TxtMt K mg CM aS) (c_cell_of : C8.Cal P w K mg base 2 "_cell_of" (spCellOf CM CH) []) (c_choose_default : C8.Cal P w K mg base 2 "_choose_default" (spChDef K CM CH) []) (F : Fun K "_meet_case" "_meet_case" sMtCase f fd) (b : Binds K fd ["machine", "frame", "word"] []) (hm : mg "_meet_case" = some (.ref f)) : C8.Cal P w K mg base 4 "_meet_case" (spMt K CM CH fun f => ∃ rows d ws, f = .ch true rows d ws) [] := by
  refine cal_of F hm b scMtCase (fun vs H Q E h => ?_) (fun cdv A outer s H vs Q E hr h => ?_)
  · obtain ⟨p, m, m', nv, gv, co, x, fs, f, n, rfl, _⟩ := h
    rfl
  obtain ⟨p, m, m', nv, gv, co, x, fs, fm, n, rfl, ⟨rows, d, ws, rfl⟩, M, hF, hgv, hmt, hsm, q⟩ := h
  refine ⟨_, (pss_cons (ps_asg (pv 1) (pg_tup rfl (pgs_cons (pg_name (i := 3) scMtCase.nd rfl (Or.inl rfl)) (pgs_cons (pg_name (i := 4) scMtCase.nd rfl (Or.inl rfl)) (pgs_cons (pg_name (i := 5) scMtCase.nd rfl (Or.inl rfl)) (pgs_cons (pg_name (i := 6) scMtCase.nd rfl (Or.inl rfl)) pgs_nil))))))
    (pss_cons (ps_set (i := 7) scMtCase.nd rfl (Or.inl rfl) (C8.pe_c c_cell_of hr (by decide) rfl (pa_cons (pv 0) (pa_cons (pv 2) pa_nil))))
    (pss_cons (ps_if (pt_cmpR op_ne (pe_ix ix_tup (pv 7) pe_int (fun _ _ => rfl)) pe_str (nomark _))
      (pss_one (ps_ret (C8.pe_gc rfl T.gSTUCK)))
      pss_nil)
    (pss_cons (ps_for PassesOwn.never rfl (pi_tup (pv 4)) (pg_tup rfl (pgs_cons (pg_name (i := 8) scMtCase.nd rfl (Or.inl rfl)) (pgs_cons (pg_name (i := 9) scMtCase.nd rfl (Or.inl rfl)) (pgs_cons (pg_name (i := 10) scMtCase.nd rfl (Or.inl rfl)) pgs_nil))))
      (pss_one (ps_if (PW.pt (pw_and (pt_cmpR op_eq (pv 8) (pe_ix ix_tup (pv 7) pe_int (fun _ _ => rfl)) (nomark _)) (pw_and1 (pt_cmpR op_eq (pv 9) (pe_callB call_len_seq rfl T.zlen PySem.boot_len (pa_cons (pe_ix ix_tup (pv 7) pe_int (fun _ _ => rfl)) pa_nil)) (nomark _)))))
      (pss_one (ps_ret (pe_tup (pa_cons pe_str (pa_cons (pv 10) (pa_cons (pe_op op_catA (pv 6) (pe_ix ix_tup (pv 7) pe_int (fun _ _ => rfl))) pa_nil))))))
      pss_nil)))
    (pss_one (ps_ret (C8.pe_c c_choose_default hr (by decide) rfl (pa_cons (pv 0) (pa_cons (pv 5) (pa_cons (pv 6) (pa_cons (pv 2) pa_nil))))))))))), ?_⟩
  have stuckQ : ∀ {H1 : Hp}, Same H H1 → n = .stuck → m' = m → Q (.ref aS) H1 := fun s1 e1 e2 => by
    subst e1 e2
    exact q _ _ (KeepM.same s1) (M.same s1) ⟨aS, rfl, T.sSTUCK _⟩
  obtain ⟨ga, gxs, rfl, hga, x1, ys1, rfl, ⟨rfl, _⟩, y2, zs2, rfl, ⟨ra, rxs, rfl, hra, hrx⟩, y3, zs3, rfl, hy3, y4, zs4, rfl, hy4, hn⟩ := hgv
  cases (show zs4 = [] from hn)
  obtain ⟨wa, rfl, hwa⟩ := ws_at hy4
  have hrl := ats_len hrx
  refine ⟨_, rfl, ga, _, rfl, SqT.of hga, rfl, _, _, rfl, _, _, rfl, _, _, rfl, _, _, rfl, rfl, ?_⟩
  cases hmt with
  | caseNo hv hne =>
    refine ⟨_, rfl, _, rfl, p, m, nv, co, x, _, rfl, M, hv, fun cv H1 s1 hcv => ?_⟩
    obtain ⟨ca, cxs, rfl, hca⟩ := vl_word hcv
    refine ⟨_, rfl, ca, _, 0, _, rfl, rfl, SqT.of hca, at0 _ _, rfl, _, rfl, ?_⟩
    exact nno hne (stuckQ s1 rfl rfl)
  | @case _ t0 _ _ bd us _ _ hrw hrl2 hv hsel hwl =>
    refine ⟨_, rfl, _, rfl, p, m, nv, co, x, _, rfl, M, hv, fun cv H1 s1 hcv => ?_⟩
    obtain ⟨ca, cu, rfl, hca, hcu⟩ := vl_con hcv
    refine ⟨_, rfl, ca, _, 0, _, rfl, rfl, SqT.of hca, at0 _ _, rfl, _, rfl, ?_⟩
    refine nyes ?_
    refine ⟨_, rfl, ra, rfl, ⟨_, SqT.of (s1 _ _ hra)⟩, for_tup (a := ra) (xs := rxs) (fun i σ G => ∃ (v8 v9 v10 : Option V), σ = [some (.ref p.mo), some (.ref ga), some (.int x), some (.str (chW true)), some (.ref ra), some y3, some (.ref wa), some (.ref ca), v8, v9, v10] ∧ G = H1 ∧ selC t0 ((us.length : Nat) : Int) (rows.drop i) = selC t0 ((us.length : Nat) : Int) rows)
      ⟨_, _, _, rfl, rfl, rfl⟩ (fun i σ G _ ⟨_, _, _, _, h, _⟩ => by rw [h]; exact SqT.of (s1 _ _ hra)) ?_ ?_⟩
    · rintro i z σ G hx ⟨v8, v9, v10, rfl, rfl, hfd⟩
      obtain ⟨qq, hq, hqa⟩ := ats_get hrx hx
      obtain ⟨ti, ci, bb, rfl⟩ := hrw qq (List.mem_of_getElem? hq)
      obtain ⟨tt, ts, rfl, htt, u1, w1, rfl, hu1, u2, w2, rfl, hu2, u3, w3, rfl, hu3, hn3⟩ := hqa
      cases (show w3 = [] from hn3)
      cases (show u1 = .int ti from hu1)
      cases (show u2 = .int ci from hu2)
      refine ⟨tt, _, rfl, SqT.of (s1 _ _ htt), rfl, _, _, rfl, _, _, rfl, _, _, rfl, rfl, ?_⟩
      have hsl : selC t0 ((us.length : Nat) : Int) (.tup [.int ti, .int ci, bb] :: rows.drop (i + 1)) = (if ti = t0 ∧ ci = ((us.length : Nat) : Int) then some bb else selC t0 ((us.length : Nat) : Int) (rows.drop (i + 1))) := rfl
      rw [drop_at hq, hsl] at hfd
      refine ⟨_, rfl, _, rfl, ca, _, 1, _, rfl, rfl, SqT.of hca, at1 _ _ _, rfl, _, rfl, ?_⟩
      show if decide (V.int ti = V.int t0) = true then _ else _
      by_cases c1 : ti = t0
      · rw [ieq c1]
        refine iteT ?_
        refine ⟨_, rfl, _, rfl, ca, _, 2, _, rfl, rfl, SqT.of hca, at2 _ _ _ _, cu, _, rfl, .inr (SqT.of hcu), rfl, _, rfl, ?_⟩
        show if decide (V.int ci = V.int (((us.map V.int).length : Nat) : Int)) = true then _ else _
        rw [List.length_map]
        by_cases c2 : ci = ((us.length : Nat) : Int)
        · rw [ieq c2]
          refine iteT ?_
          rw [if_pos ⟨c1, c2⟩] at hfd
          have eb : bb = bd := by rw [hsel] at hfd; exact Option.some.inj hfd
          subst eb
          refine ⟨_, rfl, _, rfl, _, rfl, ca, _, 2, _, rfl, rfl, SqT.of hca, at2 _ _ _ _, catA_tup (s1 _ _ hwa) hcu (by rw [List.length_map, List.length_map]; exact Nat.le_of_lt (szl (by omega))) fun u4 H4 s4 hu4 => ⟨by show 3 ≤ sizeLine; decide, fun t ht => ?_⟩⟩
          rw [← List.map_append] at hu4
          have s5 := same_new ht (.tup [.str "eval", u3, .ref u4])
          have sA := sameT s1 (sameT s4 s5)
          exact q _ _ (KeepM.same sA) (M.same sA) (at_tup upd_same (ats_cons (at_str' (by decide +kernel)) (ats_cons (hu3.keep (fr_same sA)) (ats_cons (ws_of (s5 _ _ hu4)) ats_nil))))
        · rw [ine c2]
          refine iteF ?_
          rw [if_neg (fun h => c2 h.2)] at hfd
          exact ⟨_, _, _, rfl, rfl, hfd⟩
      · rw [ine c1]
        refine iteF ?_
        rw [if_neg (fun h => c1 h.1)] at hfd
        exact ⟨_, _, _, rfl, rfl, hfd⟩
    · rintro σ G ⟨v8, v9, v10, rfl, rfl, hfd⟩
      rw [hrl, List.drop_length] at hfd
      exact absurd (hsel.symm.trans hfd.symm) (fun h => by cases h)
  | @caseD _ t0 _ _ us _ _ _ _ hrw hrl2 hv hsel hdf =>
    refine ⟨_, rfl, _, rfl, p, m, nv, co, x, _, rfl, M, hv, fun cv H1 s1 hcv => ?_⟩
    obtain ⟨ca, cu, rfl, hca, hcu⟩ := vl_con hcv
    refine ⟨_, rfl, ca, _, 0, _, rfl, rfl, SqT.of hca, at0 _ _, rfl, _, rfl, ?_⟩
    refine nyes ?_
    refine ⟨_, rfl, ra, rfl, ⟨_, SqT.of (s1 _ _ hra)⟩, for_tup (a := ra) (xs := rxs) (fun i σ G => ∃ (v8 v9 v10 : Option V), σ = [some (.ref p.mo), some (.ref ga), some (.int x), some (.str (chW true)), some (.ref ra), some y3, some (.ref wa), some (.ref ca), v8, v9, v10] ∧ G = H1 ∧ selC t0 ((us.length : Nat) : Int) (rows.drop i) = selC t0 ((us.length : Nat) : Int) rows)
      ⟨_, _, _, rfl, rfl, rfl⟩ (fun i σ G _ ⟨_, _, _, _, h, _⟩ => by rw [h]; exact SqT.of (s1 _ _ hra)) ?_ ?_⟩
    · rintro i z σ G hx ⟨v8, v9, v10, rfl, rfl, hfd⟩
      obtain ⟨qq, hq, hqa⟩ := ats_get hrx hx
      obtain ⟨ti, ci, bb, rfl⟩ := hrw qq (List.mem_of_getElem? hq)
      obtain ⟨tt, ts, rfl, htt, u1, w1, rfl, hu1, u2, w2, rfl, hu2, u3, w3, rfl, hu3, hn3⟩ := hqa
      cases (show w3 = [] from hn3)
      cases (show u1 = .int ti from hu1)
      cases (show u2 = .int ci from hu2)
      refine ⟨tt, _, rfl, SqT.of (s1 _ _ htt), rfl, _, _, rfl, _, _, rfl, _, _, rfl, rfl, ?_⟩
      have hsl : selC t0 ((us.length : Nat) : Int) (.tup [.int ti, .int ci, bb] :: rows.drop (i + 1)) = (if ti = t0 ∧ ci = ((us.length : Nat) : Int) then some bb else selC t0 ((us.length : Nat) : Int) (rows.drop (i + 1))) := rfl
      rw [drop_at hq, hsl] at hfd
      refine ⟨_, rfl, _, rfl, ca, _, 1, _, rfl, rfl, SqT.of hca, at1 _ _ _, rfl, _, rfl, ?_⟩
      show if decide (V.int ti = V.int t0) = true then _ else _
      by_cases c1 : ti = t0
      · rw [ieq c1]
        refine iteT ?_
        refine ⟨_, rfl, _, rfl, ca, _, 2, _, rfl, rfl, SqT.of hca, at2 _ _ _ _, cu, _, rfl, .inr (SqT.of hcu), rfl, _, rfl, ?_⟩
        show if decide (V.int ci = V.int (((us.map V.int).length : Nat) : Int)) = true then _ else _
        rw [List.length_map]
        by_cases c2 : ci = ((us.length : Nat) : Int)
        · rw [ieq c2]
          refine iteT ?_
          rw [if_pos ⟨c1, c2⟩] at hfd
          exact absurd (hsel.symm.trans hfd.symm) (fun h => by cases h)
        · rw [ine c2]
          refine iteF ?_
          rw [if_neg (fun h => c2 h.2)] at hfd
          exact ⟨_, _, _, rfl, rfl, hfd⟩
      · rw [ine c1]
        refine iteF ?_
        rw [if_neg (fun h => c1 h.1)] at hfd
        exact ⟨_, _, _, rfl, rfl, hfd⟩
    · rintro σ G ⟨v8, v9, v10, rfl, rfl, hfd⟩
      exact ⟨_, rfl, _, rfl, _, rfl, _, rfl, p, m, m', nv, y3, .ref wa, co, x, d, ws, n, rfl, M.same s1, hsm, hy3.keep (fr_same s1), hy4.keep (fr_same s1), hdf, fun v' H' k' M' hv' => q _ _ ((KeepM.same s1).trans k') M' hv'⟩
abbrev sMtPick : Stmt := topS 49
theorem scMtPick : FnScope ["machine", "frame", "word", "_", "alternatives", "default", "words", "cell", "number", "body"] ["machine", "frame", "word"] (defScope sMtPick) := ⟨rfl, rfl, rfl, by decide +kernel, rfl, by decide +kernel, by decide +kernel⟩
theorem c_meet_pick {f : Addr} {fd : FuncData} (T : TxtMt K mg CM aS) (c_cell_of : C8.Cal P w K mg base 2 "_cell_of" (spCellOf CM CH) []) (c_choose_default : C8.Cal P w K mg base 2 "_choose_default" (spChDef K CM CH) []) (F : Fun K "_meet_pick" "_meet_pick" sMtPick f fd) (b : Binds K fd ["machine", "frame", "word"] []) (hm : mg "_meet_pick" = some (.ref f)) : C8.Cal P w K mg base 4 "_meet_pick" (spMt K CM CH fun f => ∃ rows d ws, f = .ch false rows d ws) [] := by
  refine cal_of F hm b scMtPick (fun vs H Q E h => ?_) (fun cdv A outer s H vs Q E hr h => ?_)
  · obtain ⟨p, m, m', nv, gv, co, x, fs, f, n, rfl, _⟩ := h
    rfl
  obtain ⟨p, m, m', nv, gv, co, x, fs, fm, n, rfl, ⟨rows, d, ws, rfl⟩, M, hF, hgv, hmt, hsm, q⟩ := h
  refine ⟨_, (pss_cons (ps_asg (pv 1) (pg_tup rfl (pgs_cons (pg_name (i := 3) scMtPick.nd rfl (Or.inl rfl)) (pgs_cons (pg_name (i := 4) scMtPick.nd rfl (Or.inl rfl)) (pgs_cons (pg_name (i := 5) scMtPick.nd rfl (Or.inl rfl)) (pgs_cons (pg_name (i := 6) scMtPick.nd rfl (Or.inl rfl)) pgs_nil))))))
    (pss_cons (ps_set (i := 7) scMtPick.nd rfl (Or.inl rfl) (C8.pe_c c_cell_of hr (by decide) rfl (pa_cons (pv 0) (pa_cons (pv 2) pa_nil))))
    (pss_cons (ps_if (pt_cmpR op_ne (pe_ix ix_tup (pv 7) pe_int (fun _ _ => rfl)) pe_str (nomark _))
      (pss_one (ps_ret (C8.pe_gc rfl T.gSTUCK)))
      pss_nil)
    (pss_cons (ps_for PassesOwn.never rfl (pi_tup (pv 4)) (pg_tup rfl (pgs_cons (pg_name (i := 8) scMtPick.nd rfl (Or.inl rfl)) (pgs_cons (pg_name (i := 9) scMtPick.nd rfl (Or.inl rfl)) pgs_nil)))
      (pss_one (ps_if (pt_cmpR op_eq (pv 8) (pe_ix ix_tup (pv 7) pe_int (fun _ _ => rfl)) (nomark _))
      (pss_one (ps_ret (pe_tup (pa_cons pe_str (pa_cons (pv 9) (pa_cons (pv 6) pa_nil))))))
      pss_nil)))
    (pss_one (ps_ret (C8.pe_c c_choose_default hr (by decide) rfl (pa_cons (pv 0) (pa_cons (pv 5) (pa_cons (pv 6) (pa_cons (pv 2) pa_nil))))))))))), ?_⟩
  have stuckQ : ∀ {H1 : Hp}, Same H H1 → n = .stuck → m' = m → Q (.ref aS) H1 := fun s1 e1 e2 => by
    subst e1 e2
    exact q _ _ (KeepM.same s1) (M.same s1) ⟨aS, rfl, T.sSTUCK _⟩
  obtain ⟨ga, gxs, rfl, hga, x1, ys1, rfl, ⟨rfl, _⟩, y2, zs2, rfl, ⟨ra, rxs, rfl, hra, hrx⟩, y3, zs3, rfl, hy3, y4, zs4, rfl, hy4, hn⟩ := hgv
  cases (show zs4 = [] from hn)
  obtain ⟨wa, rfl, hwa⟩ := ws_at hy4
  have hrl := ats_len hrx
  refine ⟨_, rfl, ga, _, rfl, SqT.of hga, rfl, _, _, rfl, _, _, rfl, _, _, rfl, _, _, rfl, rfl, ?_⟩
  cases hmt with
  | pickNo hv hne =>
    refine ⟨_, rfl, _, rfl, p, m, nv, co, x, _, rfl, M, hv, fun cv H1 s1 hcv => ?_⟩
    obtain ⟨ca, cxs, rfl, hca⟩ := vl_word hcv
    refine ⟨_, rfl, ca, _, 0, _, rfl, rfl, SqT.of hca, at0 _ _, rfl, _, rfl, ?_⟩
    exact nno hne (stuckQ s1 rfl rfl)
  | @pick _ k0 _ _ bd _ _ hrw hrl2 hv hsel =>
    refine ⟨_, rfl, _, rfl, p, m, nv, co, x, _, rfl, M, hv, fun cv H1 s1 hcv => ?_⟩
    obtain ⟨ca, rfl, hca⟩ := vl_num hcv
    refine ⟨_, rfl, ca, _, 0, _, rfl, rfl, SqT.of hca, at0 _ _, rfl, _, rfl, ?_⟩
    refine nyes ?_
    refine ⟨_, rfl, ra, rfl, ⟨_, SqT.of (s1 _ _ hra)⟩, for_tup (a := ra) (xs := rxs) (fun i σ G => ∃ (v8 v9 : Option V), σ = [some (.ref p.mo), some (.ref ga), some (.int x), some (.str (chW false)), some (.ref ra), some y3, some (.ref wa), some (.ref ca), v8, v9] ∧ G = H1 ∧ selP k0 (rows.drop i) = selP k0 rows)
      ⟨_, _, rfl, rfl, rfl⟩ (fun i σ G _ ⟨_, _, _, h, _⟩ => by rw [h]; exact SqT.of (s1 _ _ hra)) ?_ ?_⟩
    · rintro i z σ G hx ⟨v8, v9, rfl, rfl, hfd⟩
      obtain ⟨qq, hq, hqa⟩ := ats_get hrx hx
      obtain ⟨ti, bb, rfl⟩ := hrw qq (List.mem_of_getElem? hq)
      obtain ⟨tt, ts, rfl, htt, u1, w1, rfl, hu1, u3, w3, rfl, hu3, hn3⟩ := hqa
      cases (show w3 = [] from hn3)
      cases (show u1 = .int ti from hu1)
      refine ⟨tt, _, rfl, SqT.of (s1 _ _ htt), rfl, _, _, rfl, _, _, rfl, rfl, ?_⟩
      have hsl : selP k0 (.tup [.int ti, bb] :: rows.drop (i + 1)) = (if ti = k0 then some bb else selP k0 (rows.drop (i + 1))) := rfl
      rw [drop_at hq, hsl] at hfd
      refine ⟨_, rfl, _, rfl, ca, _, 1, _, rfl, rfl, SqT.of hca, at1 _ _ _, rfl, _, rfl, ?_⟩
      show if decide (V.int ti = V.int k0) = true then _ else _
      by_cases c1 : ti = k0
      · rw [ieq c1]
        refine iteT ?_
        rw [if_pos c1] at hfd
        have eb : bb = bd := by rw [hsel] at hfd; exact Option.some.inj hfd
        subst eb
        refine ⟨_, rfl, _, rfl, by show 3 ≤ sizeLine; decide, fun t ht => ?_⟩
        have s5 := same_new ht (.tup [.str "eval", u3, .ref wa])
        have sA := sameT s1 s5
        exact q _ _ (KeepM.same sA) (M.same sA) (at_tup upd_same (ats_cons (at_str' (by decide +kernel)) (ats_cons (hu3.keep (fr_same sA)) (ats_cons (ws_of (sA _ _ hwa)) ats_nil))))
      · rw [ine c1]
        refine iteF ?_
        rw [if_neg c1] at hfd
        exact ⟨_, _, rfl, rfl, hfd⟩
    · rintro σ G ⟨v8, v9, rfl, rfl, hfd⟩
      rw [hrl, List.drop_length] at hfd
      exact absurd (hsel.symm.trans hfd.symm) (fun h => by cases h)
  | @pickD _ k0 _ _ _ _ _ _ hrw hrl2 hv hsel hdf =>
    refine ⟨_, rfl, _, rfl, p, m, nv, co, x, _, rfl, M, hv, fun cv H1 s1 hcv => ?_⟩
    obtain ⟨ca, rfl, hca⟩ := vl_num hcv
    refine ⟨_, rfl, ca, _, 0, _, rfl, rfl, SqT.of hca, at0 _ _, rfl, _, rfl, ?_⟩
    refine nyes ?_
    refine ⟨_, rfl, ra, rfl, ⟨_, SqT.of (s1 _ _ hra)⟩, for_tup (a := ra) (xs := rxs) (fun i σ G => ∃ (v8 v9 : Option V), σ = [some (.ref p.mo), some (.ref ga), some (.int x), some (.str (chW false)), some (.ref ra), some y3, some (.ref wa), some (.ref ca), v8, v9] ∧ G = H1 ∧ selP k0 (rows.drop i) = selP k0 rows)
      ⟨_, _, rfl, rfl, rfl⟩ (fun i σ G _ ⟨_, _, _, h, _⟩ => by rw [h]; exact SqT.of (s1 _ _ hra)) ?_ ?_⟩
    · rintro i z σ G hx ⟨v8, v9, rfl, rfl, hfd⟩
      obtain ⟨qq, hq, hqa⟩ := ats_get hrx hx
      obtain ⟨ti, bb, rfl⟩ := hrw qq (List.mem_of_getElem? hq)
      obtain ⟨tt, ts, rfl, htt, u1, w1, rfl, hu1, u3, w3, rfl, hu3, hn3⟩ := hqa
      cases (show w3 = [] from hn3)
      cases (show u1 = .int ti from hu1)
      refine ⟨tt, _, rfl, SqT.of (s1 _ _ htt), rfl, _, _, rfl, _, _, rfl, rfl, ?_⟩
      have hsl : selP k0 (.tup [.int ti, bb] :: rows.drop (i + 1)) = (if ti = k0 then some bb else selP k0 (rows.drop (i + 1))) := rfl
      rw [drop_at hq, hsl] at hfd
      refine ⟨_, rfl, _, rfl, ca, _, 1, _, rfl, rfl, SqT.of hca, at1 _ _ _, rfl, _, rfl, ?_⟩
      show if decide (V.int ti = V.int k0) = true then _ else _
      by_cases c1 : ti = k0
      · rw [ieq c1]
        refine iteT ?_
        rw [if_pos c1] at hfd
        exact absurd (hsel.symm.trans hfd.symm) (fun h => by cases h)
      · rw [ine c1]
        refine iteF ?_
        rw [if_neg c1] at hfd
        exact ⟨_, _, rfl, rfl, hfd⟩
    · rintro σ G ⟨v8, v9, rfl, rfl, hfd⟩
      exact ⟨_, rfl, _, rfl, _, rfl, _, rfl, p, m, m', nv, y3, .ref wa, co, x, d, ws, n, rfl, M.same s1, hsm, hy3.keep (fr_same s1), hy4.keep (fr_same s1), hdf, fun v' H' k' M' hv' => q _ _ ((KeepM.same s1).trans k') M' hv'⟩
structure TxtSz (K : PySem.W.Frag) (mg : Str → Option Value) (C aS aC : Addr) : Prop extends TxtMt K mg C aS where
  gCOMPARISONS : ∃ u, mg "COMPARISONS" = some u ∧ RelV (.ref aC) u
  sCOMPARISONS : ∀ H, SqT K H aC (ineqs.map V.str)
abbrev sSizeMt : Stmt := topS 39
theorem scSizeMt : FnScope ["machine", "frame", "word", "cell"] ["machine", "frame", "word"] (defScope sSizeMt) := ⟨rfl, rfl, rfl, by decide +kernel, rfl, by decide +kernel, by decide +kernel⟩
def spSizeMt (CM CH : Addr) : Sp := fun vs H Q _ => ∃ (p : Pl) (m : Mc) (nv gv : V) (co x : Int) (fs : List (Int × Dd)) (f : Fm) (l : Vl), vs = [.ref p.mo, gv, .int x] ∧ MkAt CM CH H p m nv co ∧ FsAt H fs p.fv ∧ f.D.At F0 H gv ∧ VlS x m l ∧ (∀ ws i us, f = .apply ws → l = .cell (.part i us) → ∃ (k : Nat) (ar : Int) (b : Dd), i = (k : Int) ∧ fs[k]? = some (ar, b)) ∧ ∀ H', Same H H' → Q (.int (needM fs f l)) H'
theorem fm_word {H : Hp} {f : Fm} {v : V} (h : f.D.At F0 H v) : ∃ a xs, v = .ref a ∧ H a = some (.tup (.str f.word :: xs)) := by
  cases f <;> (obtain ⟨a, xs, rfl, ha, x, ys, rfl, ⟨rfl, _⟩, hy⟩ := h; exact ⟨a, _, rfl, ha⟩)
theorem c_sizemt {f : Addr} {fd : FuncData} (T : TxtSz K mg CM aS aC) (c_cell_of : C8.Cal P w K mg base 2 "_cell_of" (spCellOf CM CH) []) (csize_of : C8.Cal P w K mg base 1 "size_of" (spSize K) []) (c_is_partial : C8.Cal P w K mg base 1 "_is_partial" (spIsPart CM CH) []) (F : Fun K "size_to_meet" "size_to_meet" sSizeMt f fd) (b : Binds K fd ["machine", "frame", "word"] []) (hm : mg "size_to_meet" = some (.ref f)) : C8.Cal P w K mg base 3 "size_to_meet" (spSizeMt CM CH) [] := by
  refine cal_of F hm b scSizeMt (fun vs H Q E h => ?_) (fun cdv A outer s H vs Q E hr h => ?_)
  · obtain ⟨p, m, nv, gv, co, x, fs, f, l, rfl, _⟩ := h
    rfl
  obtain ⟨p, m, nv, gv, co, x, fs, fm, l, rfl, M, hF, hgv, hv, hpt, q⟩ := h
  refine ⟨_, (pss_cons (ps_set (i := 3) scSizeMt.nd rfl (Or.inl rfl) (C8.pe_c c_cell_of hr (by decide) rfl (pa_cons (pv 0) (pa_cons (pv 2) pa_nil))))
    (C8.pss_cut (ps_if (PW.pt (pw_and (pt_cmpR op_eq (pe_ix ix_tup (pv 1) pe_int (fun _ _ => rfl)) pe_str (nomark _)) (pw_and (pt_cmpR op_eq (pe_ix ix_tup (pv 3) pe_int (fun _ _ => rfl)) pe_str (nomark _)) (pw_and1 (pt_val (C8.pe_c c_is_partial hr (by decide) rfl (pa_cons (pv 0) (pa_cons (pv 3) (pa_cons (pv 1) pa_nil)))))))))
      (pss_one (ps_ret (pe_op op_add (C8.pe_c csize_of hr (by decide) rfl (pa_cons (pv 3) pa_nil)) (pe_callB call_len_seq rfl T.zlen PySem.boot_len (pa_cons (pe_ix ix_tup (pv 1) pe_int (fun _ _ => rfl)) pa_nil)))))
      pss_nil)
    (pss_cons (ps_if (PW.pt (pw_and (pt_cmpR op_eq (pe_ix ix_tup (pv 1) pe_int (fun _ _ => rfl)) pe_str (nomark _)) (pw_and (pt_cmpR op_eq (pe_ix ix_tup (pv 3) pe_int (fun _ _ => rfl)) pe_str (nomark _)) (pw_and1 (pt_cmpR op_in_seq (pe_ix ix_tup (pv 1) pe_int (fun _ _ => rfl)) (C8.pe_gc rfl T.gCOMPARISONS) rfl)))))
      (pss_one (ps_ret pe_int))
      pss_nil)
    (pss_one (ps_ret pe_int))))), ?_⟩
  refine ⟨_, rfl, _, rfl, p, m, nv, co, x, l, rfl, M, hv, fun cv H1 s1 hcv => ?_⟩
  obtain ⟨ca, cxs, rfl, hca⟩ := vl_word hcv
  have hgv1 := hgv.keep (fr_same s1)
  obtain ⟨ga, gxs, rfl, hga⟩ := fm_word hgv1
  have fz : ∀ {fs : List (Int × Dd)} {f : Fm} {l : Vl}, (∀ ws i us, f = .apply ws → l ≠ .cell (.part i us)) → (∀ s i n, f = .prim s i → l ≠ .num n) → needM fs f l = 0 := fun {fs f l} h1 h2 => by
    unfold needM
    split
    · exact absurd rfl (h1 _ _ _ rfl)
    · exact absurd rfl (h2 _ _ _ rfl)
    · rfl
  have no : ∀ {z w' : Str} {A B : Prop}, z ≠ w' → B → if decide (V.str z = V.str w') = true then A else B := fun h hb => by rw [wne h]; exact iteF hb
  have hpl : l.word = "part" → ∃ i us, l = .cell (.part i us) := fun h => by
    cases l with
    | num n => exact absurd h (show ("number" : Str) ≠ "part" by decide +kernel)
    | cell c =>
      cases c with
      | part i us => exact ⟨i, us, rfl⟩
      | lat b ws s => exact absurd h (show ("later" : Str) ≠ "part" by decide +kernel)
      | con i ws => exact absurd h (show ("con" : Str) ≠ "part" by decide +kernel)
      | on i => exact absurd h (show ("on" : Str) ≠ "part" by decide +kernel)
      | hole => exact absurd h (show ("hole" : Str) ≠ "part" by decide +kernel)
  have hnl : l.word = "number" → ∃ n, l = .num n := fun h => by
    cases l with
    | num n => exact ⟨n, rfl⟩
    | cell c =>
      cases c with
      | part i us => exact absurd h (show ("part" : Str) ≠ "number" by decide +kernel)
      | lat b ws s => exact absurd h (show ("later" : Str) ≠ "number" by decide +kernel)
      | con i ws => exact absurd h (show ("con" : Str) ≠ "number" by decide +kernel)
      | on i => exact absurd h (show ("on" : Str) ≠ "number" by decide +kernel)
      | hole => exact absurd h (show ("hole" : Str) ≠ "number" by decide +kernel)
  have hfa : ∀ z : Str, (z = "apply" ∨ z = "prim") → fm.word = z → (∃ ws, fm = .apply ws ∧ z = "apply") ∨ ∃ s i, fm = .prim s i ∧ z = "prim" := fun z hz h => by
    cases fm with
    | apply ws =>
      refine .inl ⟨ws, rfl, ?_⟩
      rw [← h]; rfl
    | prim s i =>
      refine .inr ⟨s, i, rfl, ?_⟩
      rw [← h]; rfl
    | «show» =>
      have h : ("show" : Str) = z := h
      rcases hz with e | e <;> (rw [e] at h; exact absurd h (by decide +kernel))
    | head r =>
      have h : ("head" : Str) = z := h
      rcases hz with e | e <;> (rw [e] at h; exact absurd h (by decide +kernel))
    | upd r =>
      have h : ("update" : Str) = z := h
      rcases hz with e | e <;> (rw [e] at h; exact absurd h (by decide +kernel))
    | seq b ws =>
      have h : ("seq" : Str) = z := h
      rcases hz with e | e <;> (rw [e] at h; exact absurd h (by decide +kernel))
    | right s o ws =>
      have h : ("right" : Str) = z := h
      rcases hz with e | e <;> (rw [e] at h; exact absurd h (by decide +kernel))
    | ch c r d ws =>
      have h : chW c = z := h
      rcases hz with e | e <;> (rw [e] at h; exact absurd h (by cases c <;> decide +kernel))
  refine ⟨fun σ' G => σ' = [some (.ref p.mo), some (.ref ga), some (.int x), some (.ref ca)] ∧ Same H1 G ∧ ∀ ws i us, fm = .apply ws → l = .cell (.part i us) → needM fs fm l = 0, ?_, ?_⟩
  · refine ⟨_, rfl, ga, _, 0, _, rfl, rfl, SqT.of hga, at0 _ _, rfl, _, rfl, ?_⟩
    show if decide (V.str fm.word = V.str "apply") = true then _ else _
    by_cases c1 : fm.word = "apply"
    · obtain ⟨ws, rfl, _⟩ : ∃ ws, fm = .apply ws ∧ True := by
        rcases hfa _ (.inl rfl) c1 with ⟨ws, h, _⟩ | ⟨s, i, _, h⟩
        · exact ⟨ws, h, trivial⟩
        · exact absurd h (by decide +kernel)
      rw [c1, wtt]
      refine iteT ?_
      refine ⟨_, rfl, ca, _, 0, _, rfl, rfl, SqT.of hca, at0 _ _, rfl, _, rfl, ?_⟩
      show if decide (V.str l.word = V.str "part") = true then _ else _
      by_cases c2 : l.word = "part"
      · obtain ⟨i, us, rfl⟩ := hpl c2
        rw [c2, wtt]
        refine iteT ?_
        obtain ⟨k, ar, bd, rfl, hfk⟩ := hpt ws i us rfl rfl
        refine ⟨_, rfl, _, rfl, _, rfl, p, m, nv, .ref ca, .ref ga, co, ar, fs, k, us, ws, bd, rfl, M.same s1, hF.keep (fr_same s1), hcv, hgv1, hfk, ?_⟩
        have hneed : needM fs (.apply ws) (.cell (.part (k : Int) us)) = if ((us.length + ws.length : Nat) : Int) < ar then 1 + ((us.length + ws.length : Nat) : Int) else 0 := by
          show (if ((us.length + ws.length : Nat) : Int) < (fs.getD ((k : Int)).toNat (0, .non)).1 then _ else _) = _
          rw [Int.toNat_natCast, List.getD_eq_getElem?_getD, hfk]
          rfl
        refine ⟨_, rfl, ?_⟩
        by_cases c3 : ((us.length + ws.length : Nat) : Int) < ar
        · rw [decide_eq_true c3]
          refine iteT ?_
          rw [hneed, if_pos c3] at q
          obtain ⟨ga2, gxs2, e2, hga2, x1, ys1, rfl, ⟨rfl, _⟩, y2, zs2, rfl, hy2, hn⟩ := hgv1
          cases e2
          obtain ⟨gu, rfl, hgu⟩ := ws_at hy2
          have hcz := sized_cell (K := K) (c := .part (k : Int) us) hcv
          refine ⟨_, rfl, .ref ca, _, _, rfl, hcz, fun H2 s2 => ⟨_, rfl, ga, _, 1, _, rfl, rfl, SqT.of (s2 _ _ hga2), at1 _ _ _, gu, _, rfl, .inr (SqT.of (s2 _ _ hgu)), _, _, rfl, rfl, ?_⟩⟩
          rw [Cl.size_eq, List.length_map]
          show Q (.int ((((Cl.part (k : Int) us).size : Nat) : Int) + ((ws.length : Nat) : Int))) H2
          rw [show (((Cl.part (k : Int) us).size : Nat) : Int) + ((ws.length : Nat) : Int) = 1 + ((us.length + ws.length : Nat) : Int) by show ((1 + us.length : Nat) : Int) + _ = _; omega]
          exact q _ (sameT s1 s2)
        · rw [decide_eq_false c3]
          refine iteF ?_
          exact ⟨rfl, same_id, fun ws' i' us' e1 e2 => by rw [hneed, if_neg c3]⟩
      · rw [wne c2]
        refine iteF ?_
        refine iteF ?_
        exact ⟨rfl, same_id, fun ws' i' us' e1 e2 => absurd (by rw [e2]; rfl) c2⟩
    · rw [wne c1]
      refine iteF ?_
      refine iteF ?_
      exact ⟨rfl, same_id, fun ws' i' us' e1 e2 => absurd (by rw [e1]; rfl) c1⟩
  · rintro _ G ⟨rfl, sG, hz⟩
    have hgaG := sG _ _ hga
    have hcaG := sG _ _ hca
    have s2 := sameT s1 sG
    refine ⟨_, rfl, ga, _, 0, _, rfl, rfl, SqT.of hgaG, at0 _ _, rfl, _, rfl, ?_⟩
    show if decide (V.str fm.word = V.str "prim") = true then _ else _
    have zero : (∀ s i n, fm = .prim s i → l ≠ .num n) → Q (.int 0) G := fun h => by
      have e := q G s2
      by_cases c : ∃ ws i us, fm = .apply ws ∧ l = .cell (.part i us)
      · obtain ⟨ws, i, us, h1, h2⟩ := c
        rw [hz ws i us h1 h2] at e
        exact e
      · rw [fz (fun ws i us h1 h2 => c ⟨ws, i, us, h1, h2⟩) h] at e
        exact e
    by_cases c1 : fm.word = "prim"
    · obtain ⟨sg, i0, rfl, _⟩ : ∃ s i, fm = .prim s i ∧ True := by
        rcases hfa _ (.inr rfl) c1 with ⟨ws, _, h⟩ | ⟨s, i, h, _⟩
        · exact absurd h (by decide +kernel)
        · exact ⟨s, i, h, trivial⟩
      rw [c1, wtt]
      refine iteT ?_
      refine ⟨_, rfl, ca, _, 0, _, rfl, rfl, SqT.of hcaG, at0 _ _, rfl, _, rfl, ?_⟩
      show if decide (V.str l.word = V.str "number") = true then _ else _
      by_cases c2 : l.word = "number"
      · obtain ⟨n0, rfl⟩ := hnl c2
        rw [c2, wtt]
        refine iteT ?_
        obtain ⟨ga2, gxs2, e2, hga2, x1, ys1, rfl, ⟨rfl, _⟩, y2, zs2, rfl, ⟨rfl, _⟩, hn⟩ := hgv1
        cases e2
        refine ⟨_, rfl, ga, _, 1, _, rfl, rfl, SqT.of (sG _ _ hga2), at1 _ _ _, aC, _, rfl, .inr (T.sCOMPARISONS _), rfl, flat_strs _, ?_⟩
        rw [in_strs]
        have hneed : needM fs (.prim sg i0) (.num n0) = if sg ∈ ineqs then 1 else 0 := rfl
        rw [hneed] at q
        refine ⟨_, rfl, ?_⟩
        by_cases c3 : sg ∈ ineqs
        · rw [decide_eq_true c3]
          rw [if_pos c3] at q
          exact iteT (q G s2)
        · rw [decide_eq_false c3]
          rw [if_neg c3] at q
          exact iteF (q G s2)
      · rw [wne c2]
        exact iteF (iteF (zero fun s i n _ h => c2 (by rw [h]; rfl)))
    · rw [wne c1]
      exact iteF (iteF (zero fun s i n h _ => c1 (by rw [h]; rfl)))
end
end Toy

set_option Elab.async false
set_option linter.all false
set_option maxRecDepth 100000
set_option maxHeartbeats 4000000
/-! Part M: a step of the machine. -/
namespace Toy
open PySem L2
open PyProof.Rows (envOfC)
theorem atL (xs : List V) (x : V) : atI (xs ++ [x]) (-1) = some x := by
  have e : ixN (xs ++ [x]).length (-1) = some xs.length := by
    unfold ixN
    rw [if_neg (by decide), if_pos (by rw [List.length_append]; show -(((xs.length + 1 : Nat)) : Int) ≤ -1; omega)]
    rw [List.length_append]
    congr 1
    show (-1 + ((xs.length + 1 : Nat) : Int)).toNat = _
    omega
  unfold atI
  rw [e]
  show (xs ++ [x])[xs.length]? = some x
  rw [List.getElem?_append_right (Nat.le_refl _), Nat.sub_self]
  rfl
def stops : List Str := ["end", "fault", "loop", "full", "stuck"]
theorem nw_word {K : PySem.W.Frag} {H : Hp} {n : Nw} {v : V} (h : NwAt K H n v) : ∃ a xs, v = .ref a ∧ SqT K H a (.str n.word :: xs) := by
  cases n with
  | stuck => obtain ⟨a, rfl, ha⟩ := h; exact ⟨a, _, rfl, ha⟩
  | enter w => obtain ⟨a, xs, rfl, ha, x, ys, rfl, ⟨rfl, _⟩, hy⟩ := h; exact ⟨a, _, rfl, SqT.of ha⟩
  | eval b ws => obtain ⟨a, xs, rfl, ha, x, ys, rfl, ⟨rfl, _⟩, hy⟩ := h; exact ⟨a, _, rfl, SqT.of ha⟩
  | val w => obtain ⟨a, xs, rfl, ha, x, ys, rfl, ⟨rfl, _⟩, hy⟩ := h; exact ⟨a, _, rfl, SqT.of ha⟩
  | fin => obtain ⟨a, xs, rfl, ha, x, ys, rfl, ⟨rfl, _⟩, hy⟩ := h; exact ⟨a, _, rfl, SqT.of ha⟩
  | fault s => obtain ⟨a, xs, rfl, ha, x, ys, rfl, ⟨rfl, _⟩, hy⟩ := h; exact ⟨a, _, rfl, SqT.of ha⟩
  | loop => obtain ⟨a, xs, rfl, ha, x, ys, rfl, ⟨rfl, _⟩, hy⟩ := h; exact ⟨a, _, rfl, SqT.of ha⟩
  | full => obtain ⟨a, xs, rfl, ha, x, ys, rfl, ⟨rfl, _⟩, hy⟩ := h; exact ⟨a, _, rfl, SqT.of ha⟩
theorem stops_run (n : Nw) : decide (n.word ∈ stops) = !n.run := by
  cases n
  · show decide (("enter" : Str) ∈ stops) = false; decide +kernel
  · show decide (("eval" : Str) ∈ stops) = false; decide +kernel
  · show decide (("value" : Str) ∈ stops) = false; decide +kernel
  · show decide (("end" : Str) ∈ stops) = true; decide +kernel
  · show decide (("fault" : Str) ∈ stops) = true; decide +kernel
  · show decide (("loop" : Str) ∈ stops) = true; decide +kernel
  · show decide (("stuck" : Str) ∈ stops) = true; decide +kernel
  · show decide (("full" : Str) ∈ stops) = true; decide +kernel
/-- the size that is needed -/
def NeedN (fs : List (Int × Dd)) (n : Nw) (m : Mc) (z : Int) : Prop := match n with
  | .eval b _ => z = needE b
  | .val w => ∃ stk f l, m.stk = stk ++ [f] ∧ VlS w m l ∧ z = needM fs f l
  | _ => z = 0
theorem VlS.det {w : Int} {m m' : Mc} {l l' : Vl} (h : VlS w m l) (h' : VlS w m' l') (e : m.cs = m'.cs) : l = l' := by
  cases h with
  | @odd n _ =>
    generalize hw : 2 * n + 1 = w at h'
    cases h' with
    | @odd n' _ => rw [show n = n' by omega]
    | @even n' _ c hc => omega
  | @even n _ c hc =>
    generalize hw : 2 * (n : Int) = w at h'
    cases h' with
    | @odd n' _ => omega
    | @even n' _ c' hc' =>
      have : n = n' := by omega
      subst this
      rw [e, hc'] at hc
      cases hc
      rfl
theorem mt_part {fs : List (Int × Dd)} {f : Fm} {w : Int} {m m0 m' : Mc} {n : Nw} {l : Vl} (h : MtS fs f w m n m') (hl : VlS w m0 l) (e : m0.cs = m.cs) : ∀ ws i us, f = .apply ws → l = .cell (.part i us) → ∃ (k : Nat) (ar : Int) (b : Dd), i = (k : Int) ∧ fs[k]? = some (ar, b) := by
  rintro ws i us rfl rfl
  cases h with
  | part hv hf _ _ => cases hl.det hv e; exact ⟨_, _, _, rfl, hf⟩
  | full hv hf _ _ => cases hl.det hv e; exact ⟨_, _, _, rfl, hf⟩
  | over hv hf _ _ => cases hl.det hv e; exact ⟨_, _, _, rfl, hf⟩
  | applyNo hv hne => cases hl.det hv e; exact absurd rfl hne
structure TxtGo (P : Program) (w : World) (K : PySem.W.Frag) (mg : Str → Option Value) (base : Heap) (CM CH aE aM aT : Addr) (esE esM : Array DictEntry) (nE nM : Nat) (sE sM : Addr → Option Sp) : Prop extends TxtMk K CM where
  kE : KDict K w aE esE nE
  gEVALUATIONS : ∃ u, mg "EVALUATIONS" = some u ∧ RelV (.ref aE) u
  evIn : ∀ z : Wd, ∃ f sp, PySem.W.nsIn K aE z.str = some (some (.ref f)) ∧ sE f = some sp ∧ ∀ vs H Q E, spEv K CM CH z vs H Q E → sp vs H Q E
  heldE : ∀ f sp, sE f = some sp → Held P w K mg base 4 f sp
  kM : KDict K w aM esM nM
  gMEETINGS : ∃ u, mg "MEETINGS" = some u ∧ RelV (.ref aM) u
  mtIn : ∀ g : Fm, ∃ (f : Addr) (kind : Fm → Prop), PySem.W.nsIn K aM g.word = some (some (.ref f)) ∧ sM f = some (spMt K CM CH kind) ∧ kind g
  heldM : ∀ f sp, sM f = some sp → Held P w K mg base 4 f sp
section
variable {P : Program} {w : World} {K : PySem.W.Frag} {mg : Str → Option Value} {base : Heap} {CM CH aE aM aT : Addr} {esE esM : Array DictEntry} {nE nM : Nat} {sE sM : Addr → Option Sp}
abbrev sEvaluate : Stmt := topS 18
theorem scEvaluate : FnScope ["machine", "body", "words", "begin"] ["machine", "body", "words"] (defScope sEvaluate) := ⟨rfl, rfl, rfl, by decide +kernel, rfl, by decide +kernel, by decide +kernel⟩
def spEvaluate (K : PySem.W.Frag) (CM CH : Addr) : Sp := fun vs H Q E => ∃ z : Wd, spEv K CM CH z vs H Q E
theorem c_evaluate {f : Addr} {fd : FuncData} (T : TxtGo P w K mg base CM CH aE aM aT esE esM nE nM sE sM) (F : Fun K "evaluate" "evaluate" sEvaluate f fd) (b : Binds K fd ["machine", "body", "words"] []) (hm : mg "evaluate" = some (.ref f)) : C8.Cal P w K mg base 5 "evaluate" (spEvaluate K CM CH) [] := by
  refine cal_of F hm b scEvaluate (fun vs H Q E h => ?_) (fun cdv A outer s H vs Q E hr h => ?_)
  · obtain ⟨z, p, m, m', nv, bv, wv, co, r, ws, n, rfl, _⟩ := h
    rfl
  obtain ⟨z, p, m, m', nv, bv, wv, co, r, ws, n, rfl, M, hat, hws, hev, hsm, q⟩ := h
  refine ⟨_, (pss_cons (ps_set (i := 3) scEvaluate.nd rfl (Or.inl rfl) (pe_ix (ix_kd T.kE) (C8.pe_gc rfl T.gEVALUATIONS) (pe_ix ix_tup (pv 1) pe_int (fun _ _ => rfl)) (fun _ _ => rfl)))
    (pss_one (ps_ret (pe_callA (i := 3) T.heldE (hr.mono (by decide)) rfl (Or.inl rfl) (pa_cons (pv 0) (pa_cons (pv 1) (pa_cons (pv 2) pa_nil))))))), ?_⟩
  obtain ⟨a, ys, rfl, ha, hs⟩ := head_at hat
  obtain ⟨fz, sp, hns, hsE, himp⟩ := T.evIn z
  refine ⟨_, rfl, a, _, 0, _, rfl, rfl, SqT.of ha, at0 _ _, z.str, .ref fz, .ref fz, rfl, rfl, hns, rfl, ?_⟩
  exact ⟨fz, sp, rfl, hsE, _, rfl, _, rfl, _, rfl, himp _ _ _ _ ⟨p, m, m', nv, .ref a, wv, co, r, ws, n, rfl, M, hat, hws, hev, hsm, q⟩⟩
abbrev sMeet : Stmt := topS 40
theorem scMeet : FnScope ["machine", "frame", "word", "go_on"] ["machine", "frame", "word"] (defScope sMeet) := ⟨rfl, rfl, rfl, by decide +kernel, rfl, by decide +kernel, by decide +kernel⟩
def spMeet (K : PySem.W.Frag) (CM CH : Addr) : Sp := spMt K CM CH fun _ => True
theorem c_meet {f : Addr} {fd : FuncData} (T : TxtGo P w K mg base CM CH aE aM aT esE esM nE nM sE sM) (F : Fun K "meet" "meet" sMeet f fd) (b : Binds K fd ["machine", "frame", "word"] []) (hm : mg "meet" = some (.ref f)) : C8.Cal P w K mg base 5 "meet" (spMeet K CM CH) [] := by
  refine cal_of F hm b scMeet (fun vs H Q E h => ?_) (fun cdv A outer s H vs Q E hr h => ?_)
  · obtain ⟨p, m, m', nv, gv, co, x, fs, f, n, rfl, _⟩ := h
    rfl
  obtain ⟨p, m, m', nv, gv, co, x, fs, fm, n, rfl, _, M, hF, hgv, hmt, hsm, q⟩ := h
  refine ⟨_, (pss_cons (ps_set (i := 3) scMeet.nd rfl (Or.inl rfl) (pe_ix (ix_kd T.kM) (C8.pe_gc rfl T.gMEETINGS) (pe_ix ix_tup (pv 1) pe_int (fun _ _ => rfl)) (fun _ _ => rfl)))
    (pss_one (ps_ret (pe_callA (i := 3) T.heldM (hr.mono (by decide)) rfl (Or.inl rfl) (pa_cons (pv 0) (pa_cons (pv 1) (pa_cons (pv 2) pa_nil))))))), ?_⟩
  obtain ⟨ga, gxs, rfl, hga⟩ := fm_word hgv
  obtain ⟨fz, kind, hns, hsM, hk⟩ := T.mtIn fm
  refine ⟨_, rfl, ga, _, 0, _, rfl, rfl, SqT.of hga, at0 _ _, fm.word, .ref fz, .ref fz, rfl, rfl, hns, rfl, ?_⟩
  exact ⟨fz, _, rfl, hsM, _, rfl, _, rfl, _, rfl, p, m, m', nv, .ref ga, co, x, fs, fm, n, rfl, hk, M, hF, hgv, hmt, hsm, q⟩
abbrev sSizeN : Stmt := topS 58
theorem scSizeN : FnScope ["machine"] ["machine"] (defScope sSizeN) := ⟨rfl, rfl, rfl, by decide +kernel, rfl, by decide +kernel, by decide +kernel⟩
def spSizeN (K : PySem.W.Frag) (CM CH : Addr) : Sp := fun vs H Q _ => ∃ (p : Pl) (m m' : Mc) (nv : V) (co : Int) (fs : List (Int × Dd)) (n n' : Nw), vs = [.ref p.mo] ∧ MkAt CM CH H p m nv co ∧ NwAt K H n nv ∧ FsAt H fs p.fv ∧ StS fs n m n' m' ∧ ∀ (z : Int) (H' : Hp), NeedN fs n m z → Same H H' → Q (.int z) H'
theorem c_sizen {f : Addr} {fd : FuncData} (TM : TxtMk K CM) (csize_to_evaluate : C8.Cal P w K mg base 3 "size_to_evaluate" spSizeE []) (csize_to_meet : C8.Cal P w K mg base 3 "size_to_meet" (spSizeMt CM CH) []) (F : Fun K "size_needed" "size_needed" sSizeN f fd) (b : Binds K fd ["machine"] []) (hm : mg "size_needed" = some (.ref f)) : C8.Cal P w K mg base 4 "size_needed" (spSizeN K CM CH) [] := by
  refine cal_of F hm b scSizeN (fun vs H Q E h => ?_) (fun cdv A outer s H vs Q E hr h => ?_)
  · obtain ⟨p, m, m', nv, co, fs, n, n', rfl, _⟩ := h
    rfl
  obtain ⟨p, m, m', nv, co, fs, n, n', rfl, M, hn, hF, hst, q⟩ := h
  refine ⟨_, (pss_cons (ps_if (pt_cmpR op_eq (pe_ix ix_tup (pe_fld (pv 0) rfl) pe_int (fun _ _ => rfl)) pe_str (nomark _))
      (pss_one (ps_ret (C8.pe_c csize_to_evaluate hr (by decide) rfl (pa_cons (pe_ix ix_tup (pe_fld (pv 0) rfl) pe_int (fun _ _ => rfl)) pa_nil))))
      pss_nil)
    (pss_cons (ps_if (pt_cmpR op_eq (pe_ix ix_tup (pe_fld (pv 0) rfl) pe_int (fun _ _ => rfl)) pe_str (nomark _))
      (pss_one (ps_ret (C8.pe_c csize_to_meet hr (by decide) rfl (pa_cons (pv 0) (pa_cons (pe_ix ix_list (pe_fld (pv 0) rfl) (pe_un un_neg pe_int) (fun _ _ => rfl)) (pa_cons (pe_ix ix_tup (pe_fld (pv 0) rfl) pe_int (fun _ _ => rfl)) pa_nil))))))
      pss_nil)
    (pss_one (ps_ret pe_int)))), ?_⟩
  obtain ⟨dx, ho⟩ := M.o
  cases hst with
  | @enter w0 _ _ _ h1 =>
    obtain ⟨a, xs, rfl, ha, x, ys, rfl, ⟨rfl, _⟩, y, zs, rfl, hy, hz⟩ := hn
    refine ⟨_, rfl, p.mo, CM, dx, _, _, rfl, ho, TM.cl, TM.n_now, fM_now .., a, _, 0, _, rfl, rfl, SqT.of ha, at0 _ _, rfl, _, rfl, ?_⟩
    refine iteF ?_
    refine ⟨_, rfl, p.mo, CM, dx, _, _, rfl, ho, TM.cl, TM.n_now, fM_now .., a, _, 0, _, rfl, rfl, SqT.of ha, at0 _ _, rfl, _, rfl, ?_⟩
    refine iteF ?_
    exact q 0 H rfl same_id
  | @eval z r ws _ _ _ h1 =>
    obtain ⟨a, xs, rfl, ha, x, ys, rfl, ⟨rfl, _⟩, y, zs, rfl, hy, hz⟩ := hn
    refine ⟨_, rfl, p.mo, CM, dx, _, _, rfl, ho, TM.cl, TM.n_now, fM_now .., a, _, 0, _, rfl, rfl, SqT.of ha, at0 _ _, rfl, _, rfl, ?_⟩
    refine iteT ?_
    exact ⟨_, rfl, p.mo, CM, dx, _, _, rfl, ho, TM.cl, TM.n_now, fM_now .., a, _, 1, _, rfl, rfl, SqT.of ha, at1 _ _ _, y, z, r, ws, m, m', n', rfl, hy, h1, fun H' s' => q _ H' rfl s'⟩
  | @val w0 f0 stk _ _ _ l0 hs0 hl0 h1 =>
    obtain ⟨a, xs, rfl, ha, x, ys, rfl, ⟨rfl, _⟩, y, zs, rfl, hy, hz⟩ := hn
    cases (show y = .int w0 from hy)
    refine ⟨_, rfl, p.mo, CM, dx, _, _, rfl, ho, TM.cl, TM.n_now, fM_now .., a, _, 0, _, rfl, rfl, SqT.of ha, at0 _ _, rfl, _, rfl, ?_⟩
    refine iteF ?_
    refine ⟨_, rfl, p.mo, CM, dx, _, _, rfl, ho, TM.cl, TM.n_now, fM_now .., a, _, 0, _, rfl, rfl, SqT.of ha, at0 _ _, rfl, _, rfl, ?_⟩
    refine iteT ?_
    obtain ⟨us, u, hus, hu, _⟩ := M.pop hs0
    refine ⟨_, rfl, _, rfl, p.mo, CM, dx, _, .ref p.sa, rfl, ho, TM.cl, TM.n_stack, fM_stack .., _, rfl, p.sa, _, -1, _, rfl, rfl, SqL.of hus, atL _ _, _, rfl, p.mo, CM, dx, _, _, rfl, ho, TM.cl, TM.n_now, fM_now .., a, _, 1, _, rfl, rfl, SqT.of ha, at1 _ _ _, p, m, _, u, co, w0, fs, f0, l0, rfl, M, hF, hu, hl0, mt_part h1 hl0 rfl, fun H' s' => q _ H' ⟨stk, f0, l0, hs0, hl0, rfl⟩ s'⟩
abbrev sStopped : Stmt := inClass (topS 57) 1
theorem scStopped : FnScope ["self"] ["self"] (defScope sStopped) := ⟨rfl, rfl, rfl, by decide +kernel, rfl, by decide +kernel, by decide +kernel⟩
structure TxtSp (K : PySem.W.Frag) (mg : Str → Option Value) (C aT : Addr) : Prop extends TxtMk K C where
  gSTOPPED : ∃ u, mg "STOPPED" = some u ∧ RelV (.ref aT) u
  sSTOPPED : ∀ H, SqT K H aT (stops.map V.str)
def spStopped (K : PySem.W.Frag) (CM CH : Addr) : Sp := fun vs H Q _ => ∃ (p : Pl) (m : Mc) (nv : V) (co : Int) (n : Nw), vs = [.ref p.mo] ∧ MkAt CM CH H p m nv co ∧ NwAt K H n nv ∧ Q (.bl (!n.run)) H
theorem c_stopped {f : Addr} {fd : FuncData} (T : TxtSp K mg CM aT) (F : Fun K "stopped" "Machine.stopped" sStopped f fd) : FnOk P w K mg base CX0 1 f fd ["self"] (spStopped K CM CH) := by
  refine F.ok scStopped (fun vs H Q E h => ?_) (fun cdv A outer s H vs Q E hr h => ?_)
  · obtain ⟨p, m, nv, co, n, rfl, _⟩ := h
    rfl
  obtain ⟨p, m, nv, co, n, rfl, M, hn, q⟩ := h
  refine ⟨_, (pss_one (ps_ret (pe_cmpR op_in_seq (pe_ix ix_tup (pe_fld (pv 0) rfl) pe_int (fun _ _ => rfl)) (C8.pe_gc rfl T.gSTOPPED) rfl))), ?_⟩
  obtain ⟨dx, ho⟩ := M.o
  obtain ⟨a, xs, rfl, ha⟩ := nw_word hn
  refine ⟨_, rfl, p.mo, CM, dx, _, _, rfl, ho, T.cl, T.n_now, fM_now .., a, _, 0, _, rfl, rfl, ha, at0 _ _, aT, _, rfl, .inr (T.sSTOPPED _), rfl, flat_strs _, ?_⟩
  rw [in_strs, stops_run]
  exact q
abbrev sHasRoom : Stmt := inClass (topS 57) 4
theorem scHasRoom : FnScope ["self", "size"] ["self", "size"] (defScope sHasRoom) := ⟨rfl, rfl, rfl, by decide +kernel, rfl, by decide +kernel, by decide +kernel⟩
def spHasRoom (CM CH : Addr) : Sp := fun vs H Q _ => ∃ (p : Pl) (m : Mc) (nv : V) (co z : Int), vs = [.ref p.mo, .int z] ∧ MkAt CM CH H p m nv co ∧ used m.cs + z ≤ p.room ∧ Q (.bl true) H
theorem c_hasroom {f : Addr} {fd : FuncData} (TM : TxtMk K CM) (cfits : C8.Met P w K mg base 1 CH "fits" (spFits CH) []) (ccollect : C8.Met P w K mg base 1 CM "collect" (fun _ _ _ _ => False) []) (me : Meth K CM "has_room" f) (F : Fun K "has_room" "Machine.has_room" sHasRoom f fd) (b : Binds K fd ["self", "size"] []) : C8.Met P w K mg base 2 CM "has_room" (spHasRoom CM CH) [] := by
  refine met_of TM.cl me F b scHasRoom (fun vs H Q E h => ?_) (fun cdv A outer s H vs Q E hr h => ?_)
  · obtain ⟨p, m, nv, co, z, rfl, _⟩ := h
    rfl
  obtain ⟨p, m, nv, co, z, rfl, M, hz, q⟩ := h
  refine ⟨_, (pss_cons (ps_if (PW.pt (pw_or (pt_cmpR op_eq (pv 1) pe_int (nomark _)) (pw_or1 (pt_val (C8.pe_mt cfits hr (by decide) (pe_fld (pv 0) rfl) (pa_cons (pv 1) pa_nil))))))
      (pss_one (ps_ret pe_bl))
      pss_nil)
    (pss_cons (ps_expr (C8.pe_mt0 ccollect hr (by decide) (pv 0)))
    (pss_one (ps_ret (C8.pe_mt cfits hr (by decide) (pe_fld (pv 0) rfl) (pa_cons (pv 1) pa_nil)))))), ?_⟩
  obtain ⟨dx, ho⟩ := M.o
  obtain ⟨⟨dy, hho⟩, _⟩ := id M.h
  refine ⟨_, rfl, rfl, _, rfl, ?_⟩
  show if decide (V.int z = V.int 0) = true then _ else _
  by_cases c : z = 0
  · rw [ieq c]
    exact iteT (iteT q)
  · rw [ine c]
    refine iteF ?_
    refine ⟨_, rfl, p.mo, CM, dx, _, .ref p.ho, rfl, ho, TM.cl, TM.n_heap, fM_heap .., p.ho, dy, _, rfl, hho, fldH_no_fits .., _, rfl, p, z, m.cs, rfl, M.h, ?_⟩
    rw [decide_eq_true hz]
    refine ⟨_, rfl, ?_⟩
    exact iteT q
abbrev sStep : Stmt := inClass (topS 57) 2
theorem scStep : FnScope ["self"] ["self"] (defScope sStep) := ⟨rfl, rfl, rfl, by decide +kernel, rfl, by decide +kernel, by decide +kernel⟩
structure TxtStep (P : Program) (w : World) (K : PySem.W.Frag) (mg : Str → Option Value) (base : Heap) (CM CH pS fS : Addr) (fdS : FuncData) : Prop extends TxtMk K CM where
  hpStop : PropOf K CM "stopped" pS fS
  fStop : FnOk P w K mg base CX0 1 fS fdS ["self"] (spStopped K CM CH)
  bStop : Binds K fdS ["self"] []
variable {pS fS : Addr} {fdS : FuncData}
def spStep (K : PySem.W.Frag) (CM CH : Addr) : Sp := fun vs H Q _ => ∃ (p : Pl) (m m' : Mc) (nv : V) (co : Int) (fs : List (Int × Dd)) (n n' : Nw), vs = [.ref p.mo] ∧ MkAt CM CH H p m nv co ∧ NwAt K H n nv ∧ FsAt H fs p.fv ∧ m.small ∧ n.run = true ∧ StS fs n m n' m' ∧ (∀ z, NeedN fs n m z → used m.cs + z ≤ p.room) ∧
  ∀ (nv' : V) (H' : Hp), KeepM p H H' → MkAt CM CH H' p m' nv' co → NwAt K H' n' nv' → Q .non H'
theorem NwAt.keep {K : PySem.W.Frag} {H H' : Hp} {n : Nw} {v : V} (h : NwAt K H n v) (s : Same H H') : NwAt K H' n v := by
  cases n with
  | stuck => obtain ⟨a, rfl, ha⟩ := h; exact ⟨a, rfl, sqT_same ha s⟩
  | _ => exact Dd.At.keep (fr_same s) h
theorem c_step {f : Addr} {fd : FuncData} (T : TxtStep P w K mg base CM CH pS fS fdS) (csize_needed : C8.Cal P w K mg base 4 "size_needed" (spSizeN K CM CH) []) (chas_room : C8.Met P w K mg base 2 CM "has_room" (spHasRoom CM CH) []) (center : C8.Cal P w K mg base 3 "enter" (spEnter K CM CH) []) (cevaluate : C8.Cal P w K mg base 5 "evaluate" (spEvaluate K CM CH) []) (cmeet : C8.Cal P w K mg base 5 "meet" (spMeet K CM CH) []) (me : Meth K CM "step" f) (F : Fun K "step" "Machine.step" sStep f fd) (b : Binds K fd ["self"] []) : C8.Met P w K mg base 6 CM "step" (spStep K CM CH) [] := by
  refine met_of T.cl me F b scStep (fun vs H Q E h => ?_) (fun cdv A outer s H vs Q E hr h => ?_)
  · obtain ⟨p, m, m', nv, co, fs, n, n', rfl, _⟩ := h
    rfl
  obtain ⟨p, m, m', nv, co, fs, n, n', rfl, M, hn, hF, hsm, hrun, hst, hfit, q⟩ := h
  refine ⟨_, (pss_cons (ps_if (pt_val (pe_prop (E := C8.E0) (pv 0) T.cl T.hpStop T.fStop (hr.mono (by decide)) T.bStop .nil C8.pass0 rfl))
      (pss_one ps_retN)
      pss_nil)
    (pss_one (ps_if (pt_not (pt_val (C8.pe_mt chas_room hr (by decide) (pv 0) (pa_cons (C8.pe_c csize_needed hr (by decide) rfl (pa_cons (pv 0) pa_nil)) pa_nil))))
      (pss_one (ps_fld (pv 0) (pe_tup (pa_cons pe_str pa_nil)) rfl))
      (pss_one (ps_if (pt_cmpR op_eq (pe_ix ix_tup (pe_fld (pv 0) rfl) pe_int (fun _ _ => rfl)) pe_str (nomark _))
      (pss_one (ps_fld (pv 0) (C8.pe_c center hr (by decide) rfl (pa_cons (pv 0) (pa_cons (pe_ix ix_tup (pe_fld (pv 0) rfl) pe_int (fun _ _ => rfl)) pa_nil))) rfl))
      (pss_one (ps_if (pt_cmpR op_eq (pe_ix ix_tup (pe_fld (pv 0) rfl) pe_int (fun _ _ => rfl)) pe_str (nomark _))
      (pss_one (ps_fld (pv 0) (C8.pe_c cevaluate hr (by decide) rfl (pa_cons (pv 0) (pa_cons (pe_ix ix_tup (pe_fld (pv 0) rfl) pe_int (fun _ _ => rfl)) (pa_cons (pe_ix ix_tup (pe_fld (pv 0) rfl) pe_int (fun _ _ => rfl)) pa_nil)))) rfl))
      (pss_one (ps_fld (pv 0) (C8.pe_c cmeet hr (by decide) rfl (pa_cons (pv 0) (pa_cons (pe_bm0 PySem.F.plainAttrs_list PySem.F.slot_list_pop PySem.F.type_list_pop mt_pop (pe_fld (pv 0) rfl)) (pa_cons (pe_ix ix_tup (pe_fld (pv 0) rfl) pe_int (fun _ _ => rfl)) pa_nil)))) rfl))))))))), ?_⟩
  obtain ⟨dx0, ho0⟩ := M.o
  refine ⟨_, rfl, p.mo, dx0, _, rfl, ho0, p, m, nv, co, n, rfl, M, hn, ?_⟩
  rw [hrun]
  refine ⟨_, rfl, ?_⟩
  refine iteF ?_
  refine ⟨_, rfl, p.mo, dx0, _, rfl, ho0, fM_no_has_room .., _, rfl, p, m, m', nv, co, fs, n, n', rfl, M, hn, hF, hst, fun z H1 hz s1 => ?_⟩
  have M1 := M.same s1
  have hn1 := hn.keep s1
  have hF1 := hF.keep (fr_same s1)
  refine ⟨p, m, nv, co, z, rfl, M1, hfit z hz, ?_⟩
  refine ⟨_, rfl, ?_⟩
  refine iteF ?_
  obtain ⟨dx, ho⟩ := M1.o
  -- what it does is put
  have put : ∀ (v' : V) (H' : Hp), KeepM p H1 H' → MkAt CM CH H' p m' nv co → NwAt K H' n' v' → ∃ a C dx fs, V.ref p.mo = .ref a ∧ H' a = some (.ins C dx fs) ∧ Cls K C ∧ NoAttr K C "now" ∧ fs.length < 1000 ∧ Q .non (upd H' a (.ins C dx (putF "now" v' fs))) := fun v' H' k' M' hv' => by
    obtain ⟨dx', ho'⟩ := M'.o
    refine ⟨p.mo, CM, dx', _, rfl, ho', T.cl, T.n_now, fM_len .., ?_⟩
    rw [fM_put_now]
    obtain ⟨M2, k2, f2⟩ := M'.own ho' m'.ser v' co
    refine q v' _ (((KeepM.same s1).trans k').trans k2) M2 ?_
    cases n' with
    | stuck =>
      obtain ⟨a, rfl, ha⟩ := hv'
      refine ⟨a, rfl, ?_⟩
      rcases ha with (h | ⟨o, h⟩) | h
      · exact .inl (.inl (f2.1 _ _ h))
      · exact .inl (.inr ⟨o, by rw [upd_ne (fun e => by rw [e, ho'] at h; cases h)]; exact h⟩)
      · exact .inr h
    | _ => exact Dd.At.keep f2 hv'
  cases hst with
  | @enter w0 _ _ _ h1 =>
    obtain ⟨a, xs, rfl, ha, x, ys, rfl, ⟨rfl, _⟩, y, zs, rfl, hy, hz⟩ := hn1
    cases (show y = .int w0 from hy)
    refine ⟨_, rfl, p.mo, CM, dx, _, _, rfl, ho, T.cl, T.n_now, fM_now .., a, _, 0, _, rfl, rfl, SqT.of ha, at0 _ _, rfl, _, rfl, ?_⟩
    refine iteT ?_
    exact ⟨_, rfl, _, rfl, p.mo, CM, dx, _, _, rfl, ho, T.cl, T.n_now, fM_now .., a, _, 1, _, rfl, rfl, SqT.of ha, at1 _ _ _, p, m, m', .ref a, co, w0, n', rfl, M1, h1, hsm, fun v' H' k' M' hv' => ⟨_, rfl, put v' H' k' M' hv'⟩⟩
  | @eval z r ws _ _ _ h1 =>
    obtain ⟨a, xs, rfl, ha, x, ys, rfl, ⟨rfl, _⟩, y, zs, rfl, hy, y2, zs2, rfl, hy2, hz⟩ := hn1
    refine ⟨_, rfl, p.mo, CM, dx, _, _, rfl, ho, T.cl, T.n_now, fM_now .., a, _, 0, _, rfl, rfl, SqT.of ha, at0 _ _, rfl, _, rfl, ?_⟩
    refine iteF ?_
    refine ⟨_, rfl, p.mo, CM, dx, _, _, rfl, ho, T.cl, T.n_now, fM_now .., a, _, 0, _, rfl, rfl, SqT.of ha, at0 _ _, rfl, _, rfl, ?_⟩
    refine iteT ?_
    exact ⟨_, rfl, _, rfl, p.mo, CM, dx, _, _, rfl, ho, T.cl, T.n_now, fM_now .., a, _, 1, _, rfl, rfl, SqT.of ha, at1 _ _ _, _, rfl, p.mo, CM, dx, _, _, rfl, ho, T.cl, T.n_now, fM_now .., a, _, 2, _, rfl, rfl, SqT.of ha, at2 _ _ _ _, z, p, m, m', .ref a, y, y2, co, r, ws, n', rfl, M1, hy, hy2, h1, hsm, fun v' H' k' M' hv' => ⟨_, rfl, put v' H' k' M' hv'⟩⟩
  | @val w0 f0 stk _ _ _ l0 hs0 hl0 h1 =>
    obtain ⟨a, xs, rfl, ha, x, ys, rfl, ⟨rfl, _⟩, y, zs, rfl, hy, hz⟩ := hn1
    cases (show y = .int w0 from hy)
    refine ⟨_, rfl, p.mo, CM, dx, _, _, rfl, ho, T.cl, T.n_now, fM_now .., a, _, 0, _, rfl, rfl, SqT.of ha, at0 _ _, rfl, _, rfl, ?_⟩
    refine iteF ?_
    refine ⟨_, rfl, p.mo, CM, dx, _, _, rfl, ho, T.cl, T.n_now, fM_now .., a, _, 0, _, rfl, rfl, SqT.of ha, at0 _ _, rfl, _, rfl, ?_⟩
    refine iteF ?_
    obtain ⟨us, u, hus, hu, M2, k2, f2⟩ := M1.pop hs0
    obtain ⟨dx2, ho2⟩ := M2.o
    have hsm2 : Mc.small { m with stk := stk } := ⟨hsm.c, by have := hsm.s; rw [hs0, List.length_append] at this; show stk.length ≤ 90000; omega, hsm.e, hsm.n⟩
    refine ⟨_, rfl, _, rfl, p.mo, CM, dx, _, .ref p.sa, rfl, ho, T.cl, T.n_stack, fM_stack .., .inl ⟨rfl, _, SqL.of hus⟩, p.sa, _, u, rfl, rfl, hus, by rw [List.length_append]; exact List.getElem?_concat_length, ?_⟩
    rw [List.dropLast_concat]
    exact ⟨_, rfl, p.mo, CM, dx2, _, _, rfl, ho2, T.cl, T.n_now, fM_now .., a, _, 1, _, rfl, rfl, SqT.of (f2.1 _ _ ha), at1 _ _ _, p, _, m', .ref a, u, co, w0, fs, f0, n', rfl, trivial, M2, hF1.keep f2, hu.keep f2, h1, hsm2, fun v' H' k' M' hv' => ⟨_, rfl, put v' H' (k2.trans k') M' hv'⟩⟩
end
end Toy

set_option Elab.async false
set_option linter.all false
set_option maxRecDepth 100000
set_option maxHeartbeats 4000000
/-! Part N: a machine is made, and run. -/
namespace Toy
open PySem L2
open PyProof.Rows (envOfC)
def KeepO (o : Addr) (H H' : Hp) : Prop := ∀ b u, b ≠ o → H b = some u → H' b = some u
/-- the cells of the functions -/
def startC : Nat → List (Int × Dd) → List Cl
  | _, [] => []
  | k, q :: fs => (if q.1 = 0 then .lat q.2 [] (k : Int) else .part (k : Int) []) :: startC (k + 1) fs
theorem startC_len : ∀ (fs : List (Int × Dd)) (k : Nat), (startC k fs).length = fs.length
  | [], _ => rfl
  | q :: fs, k => by
    show (startC (k + 1) fs).length + 1 = fs.length + 1
    rw [startC_len fs]
theorem startC_snoc : ∀ (l : List (Int × Dd)) (k : Nat) (q : Int × Dd), startC k (l ++ [q]) = startC k l ++ [if q.1 = 0 then .lat q.2 [] ((k + l.length : Nat) : Int) else .part ((k + l.length : Nat) : Int) []]
  | [], k, q => rfl
  | p :: l, k, q => by
    show _ :: startC (k + 1) (l ++ [q]) = _ :: (startC (k + 1) l ++ _)
    rw [startC_snoc l (k + 1) q, show k + 1 + l.length = k + (p :: l).length by rw [List.length_cons]; omega]
def startM (fs : List (Int × Dd)) : Mc := ⟨startC 0 fs, [.show], [], [], (fs.length : Int)⟩
structure TxtMi (K : PySem.W.Frag) (mg : Str → Option Value) (C : Addr) : Prop extends TxtMk K C where
  zlen : mg "len" = none
  zenumerate : mg "enumerate" = none
section
variable {P : Program} {w : World} {K : PySem.W.Frag} {mg : Str → Option Value} {base : Heap} {CM CH pS fS : Addr} {fdS : FuncData}
abbrev sHInit : Stmt := inClass (topS 14) 0
theorem scHInit : FnScope ["self", "room"] ["self", "room"] (defScope sHInit) := ⟨rfl, rfl, rfl, by decide +kernel, rfl, by decide +kernel, by decide +kernel⟩
def spHInit (C : Addr) : Sp := fun vs H Q _ => ∃ (o dx : Addr) (room : Int), vs = [.ref o, .int room] ∧ H o = some (.ins C dx []) ∧ ∀ (p : Pl) (H' : Hp), p.ho = o → p.room = room → H p.hd = none → hAt C H' p [] → KeepO o H H' → Q .non H'
theorem c_hinit {f : Addr} {fd : FuncData} (T : TxtH K CH) (M : Mk K CH f) (mC : mg "Heap" = some (.ref CH)) (F : Fun K "__init__" "Heap.__init__" sHInit f fd) (b : Binds K fd ["self", "room"] []) : C8.Mak P w K mg base 1 "Heap" CH (spHInit CH) [] := by
  refine ⟨f, fd, ["self", "room"], [], M, F.ok scHInit (fun vs H Q E h => ?_) (fun cdv A outer s H vs Q E hr h => ?_), mC, b, .nil⟩
  · obtain ⟨o, dx, room, rfl, _⟩ := h
    rfl
  obtain ⟨o, dx, room, rfl, ho, q⟩ := h
  refine ⟨_, (pss_cons (ps_fld (pv 0) (pv 1) rfl)
    (pss_cons (ps_fld (pv 0) pe_int rfl)
    (pss_cons (ps_fld (pv 0) pe_dnewK rfl)
    (pss_one (ps_fld (pv 0) pe_int rfl))))), ?_⟩
  refine ⟨_, rfl, _, rfl, o, CH, dx, [], rfl, ho, T.cl, T.nR, (by show 0 < 1000; decide), ?_⟩
  refine ⟨_, rfl, o, CH, dx, _, rfl, upd_same, T.cl, T.nU, (by show 1 < 1000; decide), ?_⟩
  intro d hd
  have nod : o ≠ d := fun e => by rw [← e, upd_same] at hd; cases hd
  have hd0 : H d = none := by rw [upd_ne nod.symm, upd_ne nod.symm] at hd; exact hd
  refine ⟨_, rfl, o, CH, dx, _, rfl, (by rw [upd_ne nod, upd_same]), T.cl, T.nC, (by show 2 < 1000; decide), ?_⟩
  refine ⟨_, rfl, o, CH, dx, _, rfl, upd_same, T.cl, T.nN, (by show 3 < 1000; decide), ?_⟩
  refine q ⟨o, o, d, o, o, o, room, .non⟩ _ rfl rfl hd0 ⟨⟨dx, upd_same⟩, [], ?_, rfl⟩ fun x u hx hxu => ?_
  · show upd _ _ _ d = _
    rw [upd_ne nod.symm, upd_ne nod.symm, upd_same]
  · rw [upd_ne hx, upd_ne hx, upd_ne (ne_of_none hxu hd0), upd_ne hx, upd_ne hx]
    exact hxu
abbrev sMInit : Stmt := inClass (topS 57) 0
theorem scMInit : FnScope ["self", "program", "room", "functions", "main", "index", "arity", "body"] ["self", "program", "room"] (defScope sMInit) := ⟨rfl, rfl, rfl, by decide +kernel, rfl, by decide +kernel, by decide +kernel⟩
def spMInit (K : PySem.W.Frag) (CM CH : Addr) : Sp := fun vs H Q _ => ∃ (o dx fa ga : Addr) (xs : List V) (main room : Int) (fs : List (Int × Dd)), vs = [.ref o, .ref ga, .int room] ∧ H o = some (.ins CM dx []) ∧ H ga = some (.tup [.ref fa, .int main]) ∧ H fa = some (.tup xs) ∧ Dd.Ats F0 H (fs.map fnD) xs ∧ fs.length ≤ 1000 ∧
  ∀ (p : Pl) (nv : V) (H' : Hp), p.mo = o → p.room = room → p.fv = .ref fa → H p.ho = none → H p.hd = none → H p.sa = none → H p.ea = none → H p.na = none → KeepO o H H' → MkAt CM CH H' p (startM fs) nv 0 → NwAt K H' (.enter (2 * main)) nv → Q .non H'
theorem c_minit {f : Addr} {fd : FuncData} (T : TxtMi K mg CM) (TH : TxtH K CH) (cHeap : C8.Mak P w K mg base 1 "Heap" CH (spHInit CH) []) (cmake : C8.Met P w K mg base 2 CH "make" (spMake CH) []) (M : Mk K CM f) (mC : mg "Machine" = some (.ref CM)) (F : Fun K "__init__" "Machine.__init__" sMInit f fd) (b : Binds K fd ["self", "program", "room"] []) : C8.Mak P w K mg base 3 "Machine" CM (spMInit K CM CH) [] := by
  refine ⟨f, fd, ["self", "program", "room"], [], M, F.ok scMInit (fun vs H Q E h => ?_) (fun cdv A outer s H vs Q E hr h => ?_), mC, b, .nil⟩
  · obtain ⟨o, dx, fa, ga, xs, main, room, fs, rfl, _⟩ := h
    rfl
  obtain ⟨o, dx, fa, ga, xs, main, room, fs, rfl, ho, hga, hfa, hfx, hfl, q⟩ := h
  refine ⟨_, (pss_cons (ps_asg (pv 1) (pg_tup rfl (pgs_cons (pg_name (i := 3) scMInit.nd rfl (Or.inl rfl)) (pgs_cons (pg_name (i := 4) scMInit.nd rfl (Or.inl rfl)) pgs_nil))))
    (pss_cons (ps_fld (pv 0) (pv 3) rfl)
    (pss_cons (ps_fld (pv 0) (C8.pe_mk cHeap hr (by decide) rfl (pa_cons (pv 2) pa_nil)) rfl)
    (pss_cons (ps_for PassesOwn.never rfl (pi_enumT rfl T.zenumerate (pa_cons (pv 3) pa_nil)) (pg_tup rfl (pgs_cons (pg_name (i := 5) scMInit.nd rfl (Or.inl rfl)) (pgs_cons (pg_tup rfl (pgs_cons (pg_name (i := 6) scMInit.nd rfl (Or.inl rfl)) (pgs_cons (pg_name (i := 7) scMInit.nd rfl (Or.inl rfl)) pgs_nil))) pgs_nil)))
      (pss_one (ps_expr (C8.pe_mt cmake hr (by decide) (pe_fld (pv 0) rfl) (pa_cons (pe_ifExp (pt_cmpR op_eq (pv 6) pe_int (nomark _)) (pe_tup (pa_cons pe_str (pa_cons (pv 7) (pa_cons (pe_tup pa_nil) (pa_cons (pv 5) pa_nil))))) (pe_tup (pa_cons pe_str (pa_cons (pv 5) (pa_cons (pe_tup pa_nil) pa_nil))))) pa_nil)))))
    (pss_cons (ps_fld (pv 0) (pe_callB call_len_seq rfl T.zlen PySem.boot_len (pa_cons (pv 3) pa_nil)) rfl)
    (pss_cons (ps_fld (pv 0) (pe_lst (pa_cons (pe_tup (pa_cons pe_str pa_nil)) pa_nil)) rfl)
    (pss_cons (ps_fld (pv 0) (pe_tup (pa_cons pe_str (pa_cons (pe_op op_mul pe_int (pv 4)) pa_nil))) rfl)
    (pss_cons (ps_fld (pv 0) (pe_lst pa_nil) rfl)
    (pss_cons (ps_fld (pv 0) (pe_lst pa_nil) rfl)
    (pss_one (ps_fld (pv 0) pe_int rfl))))))))))), ?_⟩
  refine ⟨_, rfl, ga, _, rfl, SqT.of hga, rfl, _, _, rfl, _, _, rfl, rfl, ?_⟩
  refine ⟨_, rfl, _, rfl, o, CM, dx, [], rfl, ho, T.cl, T.n_functions, (by show 0 < 1000; decide), ?_⟩
  have ho1 : upd H o (.ins CM dx (putF "functions" (.ref fa) [])) o = some (.ins CM dx [("functions", .ref fa)]) := upd_same
  have k1 : KeepO o H (upd H o (.ins CM dx (putF "functions" (.ref fa) []))) := fun b u n e => by rw [upd_ne n]; exact e
  generalize upd H o (.ins CM dx (putF "functions" (.ref fa) [])) = H1 at ho1 k1 ⊢
  refine ⟨_, rfl, fun hO hX hhO hhX nex => ?_⟩
  have nOo : hO ≠ o := fun e => by rw [e, ho1] at hhO; cases hhO
  have nXo : hX ≠ o := fun e => by rw [e, ho1] at hhX; cases hhX
  have s2 : Same H1 (upd (upd H1 hX (.own hO)) hO (.ins CH hX [])) := fun b u e => by
    rw [upd_ne (ne_of_none e hhO), upd_ne (ne_of_none e hhX)]
    exact e
  have eO : upd (upd H1 hX (.own hO)) hO (.ins CH hX []) hO = some (.ins CH hX []) := upd_same
  generalize upd (upd H1 hX (.own hO)) hO (.ins CH hX []) = H2 at s2 eO ⊢
  refine ⟨hO, hX, room, rfl, eO, fun p0 H3 hp1 hp2 hp3 hA k3 => ⟨rfl, ?_⟩⟩
  subst hp1
  have s23 : Same H1 H3 := fun b u e => k3 b u (ne_of_none e hhO) (s2 _ _ e)
  have hd1 : H1 p0.hd = none := by
    cases e : H1 p0.hd with
    | none => rfl
    | some u => rw [s2 _ _ e] at hp3; cases hp3
  have nDo : p0.hd ≠ o := fun e => by rw [e, ho1] at hd1; cases hd1
  have off : ∀ {b : Addr}, H1 b = none → b ≠ o → H b = none := fun {b} h n => by
    cases e : H b with
    | none => rfl
    | some u => rw [k1 _ _ n e] at h; cases h
  refine ⟨_, rfl, o, CM, dx, _, rfl, s23 _ _ ho1, T.cl, T.n_heap, (by show 1 < 1000; decide), ?_⟩
  have ho4 : upd H3 o (.ins CM dx (putF "heap" (.ref p0.ho) [("functions", .ref fa)])) o = some (.ins CM dx [("functions", .ref fa), ("heap", .ref p0.ho)]) := upd_same
  have f4 : Fr F0 H3 (upd H3 o (.ins CM dx (putF "heap" (.ref p0.ho) [("functions", .ref fa)]))) := fr_upd (s23 _ _ ho1) fun _ z => by cases z
  have hA4 := hA.keep f4 (upd_ne nOo) (upd_ne nDo)
  have k4 : KeepO o H (upd H3 o (.ins CM dx (putF "heap" (.ref p0.ho) [("functions", .ref fa)]))) := fun b u n e => by rw [upd_ne n]; exact s23 _ _ (k1 _ _ n e)
  have nod : p0.ho ≠ p0.hd := fun e => by
    obtain ⟨⟨dy, h1⟩, kvs, h2, _⟩ := hA
    rw [e, h2] at h1
    cases h1
  generalize upd H3 o (.ins CM dx (putF "heap" (.ref p0.ho) [("functions", .ref fa)])) = H4 at ho4 f4 hA4 k4 ⊢
  have nf : ∀ {b : Addr} {u : HO}, H b = some u → b ≠ p0.ho ∧ b ≠ p0.hd := fun {b u} e => by
    by_cases c : b = o
    · exact ⟨fun z => nOo (by rw [← z, c]), fun z => nDo (by rw [← z, c])⟩
    · exact ⟨fun z => (by rw [← z, k1 _ _ c e] at hhO; cases hhO), fun z => (by rw [← z, k1 _ _ c e] at hd1; cases hd1)⟩
  have nfa : fa ≠ o := fun z => by rw [z, ho] at hfa; cases hfa
  have hfa4 := k4 _ _ nfa hfa
  have hxl := ats_len hfx
  rw [List.length_map] at hxl
  refine ⟨_, rfl, fa, xs, rfl, SqT.of hfa4, for_enumT (fun i σ G => ∃ v5 v6 v7 : Option V, σ = [some (.ref o), some (.ref ga), some (.int room), some (.ref fa), some (.int main), v5, v6, v7] ∧ KeepO o H G ∧ G o = some (.ins CM dx [("functions", .ref fa), ("heap", .ref p0.ho)]) ∧ hAt CH G p0 (startC 0 (fs.take i)))
    ⟨_, _, _, rfl, k4, ho4, hA4⟩ (fun i σ G ⟨_, _, _, _, kG, _⟩ => SqT.of (kG _ _ nfa hfa)) ?_ ?_⟩
  · rintro i x tt σ G hx ⟨v5, v6, v7, rfl, kG, hoG, hG⟩ htt
    obtain ⟨k, hk, hkat⟩ := ats_get hfx hx
    rw [List.getElem?_map] at hk
    obtain ⟨q0, hq0, rfl⟩ : ∃ q0, fs[i]? = some q0 ∧ fnD q0 = k := by
      cases e : fs[i]? with
      | none => rw [e] at hk; cases hk
      | some q0 => rw [e] at hk; exact ⟨q0, rfl, Option.some.inj hk⟩
    have hil : i < fs.length := (List.getElem?_eq_some_iff.mp hq0).1
    obtain ⟨t, ts, rfl, ht, y1, zs1, rfl, hy1, y2, zs2, rfl, hy2, hn⟩ := hkat
    cases (show zs2 = [] from hn)
    cases (show y1 = .int q0.1 from hy1)
    have frK : ∀ {G' : Hp}, KeepO o H G' → Fr F0 H G' := fun {G'} kk => ⟨fun b us e => kk _ _ (fun z => by rw [z, ho] at e; cases e) e, fun _ _ z _ => z.elim⟩
    have hto : t ≠ o := fun z => by rw [z, ho] at ht; cases ht
    have s5 := same_new htt (.tup [.int (i : Nat), .ref t])
    have e5 : upd G tt (.tup [.int (i : Nat), .ref t]) tt = some (.tup [.int (i : Nat), .ref t]) := upd_same
    have kG5 : KeepO o H (upd G tt (.tup [.int (i : Nat), .ref t])) := fun b u n e => s5 _ _ (kG b u n e)
    have hoG5 := s5 _ _ hoG
    have hG5 := hG.same s5
    generalize upd G tt (.tup [.int (i : Nat), .ref t]) = G5 at s5 e5 kG5 hoG5 hG5 ⊢
    refine ⟨tt, _, rfl, SqT.of e5, rfl, _, _, rfl, _, _, rfl, t, _, rfl, SqT.of (kG5 _ _ hto ht), rfl, _, _, rfl, _, _, rfl, rfl, rfl, ?_⟩
    have hby := hy2.keep (frK kG5)
    obtain ⟨⟨dyG, hhG⟩, _⟩ := id hG5
    have hcl := startC_len (fs.take i) 0
    rw [List.length_take] at hcl
    -- the cell is made
    have fin : ∀ (c : Cl) (v : V) (G6 : Hp), Same G5 G6 → c.D.At F0 G6 v → (if q0.1 = 0 then Cl.lat q0.2 [] (i : Int) else .part (i : Int) []) = c → spMake CH [.ref p0.ho, v] G6 (fun _ G7 => ∃ v5 v6 v7 : Option V, [some (.ref o), some (.ref ga), some (.int room), some (.ref fa), some (.int main), some (.int (i : Nat)), some (.int q0.1), some y2] = [some (.ref o), some (.ref ga), some (.int room), some (.ref fa), some (.int main), v5, v6, v7] ∧ KeepO o H G7 ∧ G7 o = some (.ins CM dx [("functions", .ref fa), ("heap", .ref p0.ho)]) ∧ hAt CH G7 p0 (startC 0 (fs.take (i + 1)))) C8.E0 := fun c v G6 s6 hc he => by
      refine ⟨p0, _, v, c, rfl, hG5.same s6, nod, hc, by omega, fun G7 k7 h7 => ⟨_, _, _, rfl, fun b u n e => ?_, ?_, ?_⟩⟩
      · obtain ⟨n1, n2⟩ := nf e
        exact k7 _ _ n1 n2 (s6 _ _ (kG5 b u n e))
      · exact k7 _ _ nOo.symm nDo.symm (s6 _ _ hoG5)
      · rw [take_snoc hq0, startC_snoc, List.length_take, Nat.zero_add, Nat.min_eq_left (by omega), he]
        exact h7
    refine ⟨_, rfl, o, CM, dx, _, .ref p0.ho, rfl, hoG5, T.cl, T.n_heap, rfl, p0.ho, dyG, _, rfl, hhG, fldH_no_make .., ?_⟩
    refine ⟨_, rfl, rfl, _, rfl, ?_⟩
    show if decide (V.int q0.1 = V.int 0) = true then _ else _
    by_cases c0 : q0.1 = 0
    · rw [ieq c0]
      refine iteT ?_
      refine ⟨_, rfl, by show 0 ≤ sizeLine; decide, fun t7 ht7 => ⟨_, rfl, by show 4 ≤ sizeLine; decide, fun t8 ht8 => ?_⟩⟩
      have s7 := same_new ht7 (.tup [])
      have e7 : upd G5 t7 (.tup []) t7 = some (.tup (([] : List Int).map V.int)) := upd_same
      have s8 := same_new ht8 (.tup [.str "later", y2, .ref t7, .int (i : Nat)])
      exact fin (.lat q0.2 [] (i : Int)) _ _ (sameT s7 s8) (at_tup upd_same (ats_cons (at_str' (by decide +kernel)) (ats_cons (hby.keep (fr_same (sameT s7 s8))) (ats_cons (ws_of (s8 _ _ e7)) (ats_cons rfl ats_nil))))) (if_pos c0)
    · rw [ine c0]
      refine iteF ?_
      refine ⟨_, rfl, by show 0 ≤ sizeLine; decide, fun t7 ht7 => ⟨by show 3 ≤ sizeLine; decide, fun t8 ht8 => ?_⟩⟩
      have s7 := same_new ht7 (.tup [])
      have e7 : upd G5 t7 (.tup []) t7 = some (.tup (([] : List Int).map V.int)) := upd_same
      have s8 := same_new ht8 (.tup [.str "part", .int (i : Nat), .ref t7])
      exact fin (.part (i : Int) []) _ _ (sameT s7 s8) (at_tup upd_same (ats_cons (at_str' (by decide +kernel)) (ats_cons rfl (ats_cons (ws_of (s8 _ _ e7)) ats_nil)))) (if_neg c0)
  rintro σ G ⟨v5, v6, v7, rfl, kG, hoG, hG⟩
  rw [hxl, List.take_length] at hG
  have hfaG := kG _ _ nfa hfa
  refine ⟨_, rfl, fa, xs, rfl, .inr (SqT.of hfaG), _, rfl, o, CM, dx, _, rfl, hoG, T.cl, T.n_serial, (by show 2 < 1000; decide), ?_⟩
  rw [hxl]
  -- the other fields
  have hoA : upd G o (.ins CM dx (putF "next_serial" (.int (fs.length : Int)) [("functions", .ref fa), ("heap", .ref p0.ho)])) o = some (.ins CM dx [("functions", .ref fa), ("heap", .ref p0.ho), ("next_serial", .int (fs.length : Int))]) := upd_same
  have fA := fr_upd (o := .ins CM dx (putF "next_serial" (.int (fs.length : Int)) [("functions", .ref fa), ("heap", .ref p0.ho)])) hoG fun _ z => by cases z
  have hGA := hG.keep fA (upd_ne nOo) (upd_ne nDo)
  have kA : KeepO o H (upd G o (.ins CM dx (putF "next_serial" (.int (fs.length : Int)) [("functions", .ref fa), ("heap", .ref p0.ho)]))) := fun b u n e => by rw [upd_ne n]; exact kG _ _ n e
  generalize upd G o (.ins CM dx (putF "next_serial" (.int (fs.length : Int)) [("functions", .ref fa), ("heap", .ref p0.ho)])) = GA at hoA hGA kA ⊢
  have fresh : ∀ {G' : Hp} {b : Addr}, KeepO o H G' → G' o ≠ none → G' b = none → H b = none := fun {G' b} kk h0 h => by
    by_cases c : b = o
    · rw [c] at h; exact absurd h h0
    · cases e : H b with
      | none => rfl
      | some u => rw [kk _ _ c e] at h; cases h
  have lv : ∀ {G' : Hp} {cs : List Cl}, hAt CH G' p0 cs → G' p0.ho ≠ none ∧ G' p0.hd ≠ none := fun {G' cs} ⟨⟨dy, h1⟩, kvs, h2, _⟩ => ⟨fun z => (by rw [h1] at z; cases z), fun z => (by rw [h2] at z; cases z)⟩
  refine ⟨by show 1 ≤ sizeLine; decide, fun t1 ht1 => ⟨by show 1 ≤ sizeLine; decide, fun sa hsa => ?_⟩⟩
  have s1 := same_new ht1 (.tup [.str "show"])
  have e1 : upd GA t1 (.tup [.str "show"]) t1 = some (.tup [.str "show"]) := upd_same
  generalize upd GA t1 (.tup [.str "show"]) = GB at s1 e1 hsa ⊢
  have s2' := same_new hsa (.lst [.ref t1])
  have eS : upd GB sa (.lst [.ref t1]) sa = some (.lst [.ref t1]) := upd_same
  have s12 := sameT s1 s2'
  have e1' := s2' _ _ e1
  have hoC := s12 _ _ hoA
  have hGC := hGA.same s12
  have kC : KeepO o H (upd GB sa (.lst [.ref t1])) := fun b u n e => s12 _ _ (kA b u n e)
  have hsaN : H sa = none := fresh (G' := GB) (fun b u n e => s1 _ _ (kA b u n e)) (by rw [s1 _ _ hoA]; exact fun z => by cases z) hsa
  have nsa : sa ≠ o ∧ sa ≠ p0.ho ∧ sa ≠ p0.hd := ⟨fun z => (by rw [z, s1 _ _ hoA] at hsa; cases hsa), fun z => (lv (hGA.same s1)).1 (by rw [← z]; exact hsa), fun z => (lv (hGA.same s1)).2 (by rw [← z]; exact hsa)⟩
  generalize upd GB sa (.lst [.ref t1]) = GC at s2' eS s12 e1' hoC hGC kC ⊢
  refine ⟨_, rfl, o, CM, dx, _, rfl, hoC, T.cl, T.n_stack, (by show 3 < 1000; decide), ?_⟩
  have hoD : upd GC o (.ins CM dx (putF "stack" (.ref sa) [("functions", .ref fa), ("heap", .ref p0.ho), ("next_serial", .int (fs.length : Int))])) o = some (.ins CM dx [("functions", .ref fa), ("heap", .ref p0.ho), ("next_serial", .int (fs.length : Int)), ("stack", .ref sa)]) := upd_same
  have fD := fr_upd (o := .ins CM dx (putF "stack" (.ref sa) [("functions", .ref fa), ("heap", .ref p0.ho), ("next_serial", .int (fs.length : Int))])) hoC fun _ z => by cases z
  have hGD := hGC.keep fD (upd_ne nOo) (upd_ne nDo)
  have kD : KeepO o H (upd GC o (.ins CM dx (putF "stack" (.ref sa) [("functions", .ref fa), ("heap", .ref p0.ho), ("next_serial", .int (fs.length : Int))]))) := fun b u n e => by rw [upd_ne n]; exact kC _ _ n e
  have eSD : upd GC o (.ins CM dx (putF "stack" (.ref sa) [("functions", .ref fa), ("heap", .ref p0.ho), ("next_serial", .int (fs.length : Int))])) sa = some (.lst [.ref t1]) := by rw [upd_ne nsa.1]; exact eS
  have e1D := fD.1 _ _ e1'
  generalize upd GC o (.ins CM dx (putF "stack" (.ref sa) [("functions", .ref fa), ("heap", .ref p0.ho), ("next_serial", .int (fs.length : Int))])) = GD at hoD hGD kD eSD e1D ⊢
  refine ⟨_, rfl, _, _, rfl, rfl, .inl ⟨by decide, by decide⟩, by show 2 ≤ sizeLine; decide, fun tn htn => ?_⟩
  have s3 := same_new htn (.tup [.str "enter", .int (2 * main)])
  have eN : upd GD tn (.tup [.str "enter", .int (2 * main)]) tn = some (.tup [.str "enter", .int (2 * main)]) := upd_same
  have hoE := s3 _ _ hoD
  have hGE := hGD.same s3
  have kE : KeepO o H (upd GD tn (.tup [.str "enter", .int (2 * main)])) := fun b u n e => s3 _ _ (kD b u n e)
  have eSE := s3 _ _ eSD
  have e1E := s3 _ _ e1D
  generalize upd GD tn (.tup [.str "enter", .int (2 * main)]) = GE at s3 eN hoE hGE kE eSE e1E ⊢
  have eNE := eN
  refine ⟨_, rfl, o, CM, dx, _, rfl, hoE, T.cl, T.n_now, (by show 4 < 1000; decide), ?_⟩
  have hoF : upd GE o (.ins CM dx (putF "now" (.ref tn) [("functions", .ref fa), ("heap", .ref p0.ho), ("next_serial", .int (fs.length : Int)), ("stack", .ref sa)])) o = some (.ins CM dx [("functions", .ref fa), ("heap", .ref p0.ho), ("next_serial", .int (fs.length : Int)), ("stack", .ref sa), ("now", (.ref tn))]) := upd_same
  have fF := fr_upd (o := .ins CM dx (putF "now" (.ref tn) [("functions", .ref fa), ("heap", .ref p0.ho), ("next_serial", .int (fs.length : Int)), ("stack", .ref sa)])) hoE fun _ z => by cases z
  have hGF := hGE.keep fF (upd_ne nOo) (upd_ne nDo)
  have kF : KeepO o H (upd GE o (.ins CM dx (putF "now" (.ref tn) [("functions", .ref fa), ("heap", .ref p0.ho), ("next_serial", .int (fs.length : Int)), ("stack", .ref sa)]))) := fun b u n e => by rw [upd_ne n]; exact kE _ _ n e
  have eSF : upd GE o (.ins CM dx (putF "now" (.ref tn) [("functions", .ref fa), ("heap", .ref p0.ho), ("next_serial", .int (fs.length : Int)), ("stack", .ref sa)])) sa = _ := (upd_ne nsa.1).trans eSE
  have e1F := fF.1 _ _ e1E
  have eNF := fF.1 _ _ eNE
  generalize upd GE o (.ins CM dx (putF "now" (.ref tn) [("functions", .ref fa), ("heap", .ref p0.ho), ("next_serial", .int (fs.length : Int)), ("stack", .ref sa)])) = GF at hoF hGF kF eSF e1F eNF ⊢
  refine ⟨by show 0 ≤ sizeLine; decide, fun ea hea => ?_⟩
  have slea := same_new hea (.lst [])
  have eeaG : upd GF ea (.lst []) ea = some (.lst []) := upd_same
  have hoG := slea _ _ hoF
  have hGG := hGF.same slea
  have kG : KeepO o H (upd GF ea (.lst [])) := fun b u n e => slea _ _ (kF b u n e)
  have heaN : H ea = none := fresh kF (by rw [hoF]; exact fun z => by cases z) hea
  have nea : ea ≠ o ∧ ea ≠ p0.ho ∧ ea ≠ p0.hd := ⟨fun z => (by rw [z, hoF] at hea; cases hea), fun z => (lv hGF).1 (by rw [← z]; exact hea), fun z => (lv hGF).2 (by rw [← z]; exact hea)⟩
  have eSG := slea _ _ eSF
  have neasa : ea ≠ sa := fun z => by rw [z, eSF] at hea; cases hea
  have e1G := slea _ _ e1F
  have eNG := slea _ _ eNF
  generalize upd GF ea (.lst []) = GG at slea eeaG hoG hGG kG eSG e1G eNG ⊢
  refine ⟨_, rfl, o, CM, dx, _, rfl, hoG, T.cl, T.n_events, (by show 5 < 1000; decide), ?_⟩
  have hoH : upd GG o (.ins CM dx (putF "events" (.ref ea) [("functions", .ref fa), ("heap", .ref p0.ho), ("next_serial", .int (fs.length : Int)), ("stack", .ref sa), ("now", .ref tn)])) o = some (.ins CM dx [("functions", .ref fa), ("heap", .ref p0.ho), ("next_serial", .int (fs.length : Int)), ("stack", .ref sa), ("now", .ref tn), ("events", (.ref ea))]) := upd_same
  have fH := fr_upd (o := .ins CM dx (putF "events" (.ref ea) [("functions", .ref fa), ("heap", .ref p0.ho), ("next_serial", .int (fs.length : Int)), ("stack", .ref sa), ("now", .ref tn)])) hoG fun _ z => by cases z
  have hGH := hGG.keep fH (upd_ne nOo) (upd_ne nDo)
  have kH : KeepO o H (upd GG o (.ins CM dx (putF "events" (.ref ea) [("functions", .ref fa), ("heap", .ref p0.ho), ("next_serial", .int (fs.length : Int)), ("stack", .ref sa), ("now", .ref tn)]))) := fun b u n e => by rw [upd_ne n]; exact kG _ _ n e
  have eSH : upd GG o (.ins CM dx (putF "events" (.ref ea) [("functions", .ref fa), ("heap", .ref p0.ho), ("next_serial", .int (fs.length : Int)), ("stack", .ref sa), ("now", .ref tn)])) sa = _ := (upd_ne nsa.1).trans eSG
  have e1H := fH.1 _ _ e1G
  have eNH := fH.1 _ _ eNG
  have eeaH : upd GG o (.ins CM dx (putF "events" (.ref ea) [("functions", .ref fa), ("heap", .ref p0.ho), ("next_serial", .int (fs.length : Int)), ("stack", .ref sa), ("now", .ref tn)])) ea = _ := (upd_ne nea.1).trans eeaG
  generalize upd GG o (.ins CM dx (putF "events" (.ref ea) [("functions", .ref fa), ("heap", .ref p0.ho), ("next_serial", .int (fs.length : Int)), ("stack", .ref sa), ("now", .ref tn)])) = GH at hoH hGH kH eSH e1H eNH eeaH ⊢
  refine ⟨by show 0 ≤ sizeLine; decide, fun na hna => ?_⟩
  have slna := same_new hna (.lst [])
  have enaI : upd GH na (.lst []) na = some (.lst []) := upd_same
  have hoI := slna _ _ hoH
  have hGI := hGH.same slna
  have kI : KeepO o H (upd GH na (.lst [])) := fun b u n e => slna _ _ (kH b u n e)
  have hnaN : H na = none := fresh kH (by rw [hoH]; exact fun z => by cases z) hna
  have nna : na ≠ o ∧ na ≠ p0.ho ∧ na ≠ p0.hd := ⟨fun z => (by rw [z, hoH] at hna; cases hna), fun z => (lv hGH).1 (by rw [← z]; exact hna), fun z => (lv hGH).2 (by rw [← z]; exact hna)⟩
  have eSI := slna _ _ eSH
  have nnasa : na ≠ sa := fun z => by rw [z, eSH] at hna; cases hna
  have e1I := slna _ _ e1H
  have eNI := slna _ _ eNH
  have eeaI := slna _ _ eeaH
  have nnaea : na ≠ ea := fun z => by rw [z, eeaH] at hna; cases hna
  generalize upd GH na (.lst []) = GI at slna enaI hoI hGI kI eSI e1I eNI eeaI ⊢
  refine ⟨_, rfl, o, CM, dx, _, rfl, hoI, T.cl, T.n_entered, (by show 6 < 1000; decide), ?_⟩
  have hoJ : upd GI o (.ins CM dx (putF "entered" (.ref na) [("functions", .ref fa), ("heap", .ref p0.ho), ("next_serial", .int (fs.length : Int)), ("stack", .ref sa), ("now", .ref tn), ("events", .ref ea)])) o = some (.ins CM dx [("functions", .ref fa), ("heap", .ref p0.ho), ("next_serial", .int (fs.length : Int)), ("stack", .ref sa), ("now", .ref tn), ("events", .ref ea), ("entered", (.ref na))]) := upd_same
  have fJ := fr_upd (o := .ins CM dx (putF "entered" (.ref na) [("functions", .ref fa), ("heap", .ref p0.ho), ("next_serial", .int (fs.length : Int)), ("stack", .ref sa), ("now", .ref tn), ("events", .ref ea)])) hoI fun _ z => by cases z
  have hGJ := hGI.keep fJ (upd_ne nOo) (upd_ne nDo)
  have kJ : KeepO o H (upd GI o (.ins CM dx (putF "entered" (.ref na) [("functions", .ref fa), ("heap", .ref p0.ho), ("next_serial", .int (fs.length : Int)), ("stack", .ref sa), ("now", .ref tn), ("events", .ref ea)]))) := fun b u n e => by rw [upd_ne n]; exact kI _ _ n e
  have eSJ : upd GI o (.ins CM dx (putF "entered" (.ref na) [("functions", .ref fa), ("heap", .ref p0.ho), ("next_serial", .int (fs.length : Int)), ("stack", .ref sa), ("now", .ref tn), ("events", .ref ea)])) sa = _ := (upd_ne nsa.1).trans eSI
  have e1J := fJ.1 _ _ e1I
  have eNJ := fJ.1 _ _ eNI
  have eeaJ : upd GI o (.ins CM dx (putF "entered" (.ref na) [("functions", .ref fa), ("heap", .ref p0.ho), ("next_serial", .int (fs.length : Int)), ("stack", .ref sa), ("now", .ref tn), ("events", .ref ea)])) ea = _ := (upd_ne nea.1).trans eeaI
  have enaJ : upd GI o (.ins CM dx (putF "entered" (.ref na) [("functions", .ref fa), ("heap", .ref p0.ho), ("next_serial", .int (fs.length : Int)), ("stack", .ref sa), ("now", .ref tn), ("events", .ref ea)])) na = _ := (upd_ne nna.1).trans enaI
  generalize upd GI o (.ins CM dx (putF "entered" (.ref na) [("functions", .ref fa), ("heap", .ref p0.ho), ("next_serial", .int (fs.length : Int)), ("stack", .ref sa), ("now", .ref tn), ("events", .ref ea)])) = GJ at hoJ hGJ kJ eSJ e1J eNJ eeaJ enaJ ⊢
  refine ⟨_, rfl, o, CM, dx, _, rfl, hoJ, T.cl, T.n_collections, (by show 7 < 1000; decide), ?_⟩
  have hoK : upd GJ o (.ins CM dx (putF "collections" (.int 0) [("functions", .ref fa), ("heap", .ref p0.ho), ("next_serial", .int (fs.length : Int)), ("stack", .ref sa), ("now", .ref tn), ("events", .ref ea), ("entered", .ref na)])) o = some (.ins CM dx [("functions", .ref fa), ("heap", .ref p0.ho), ("next_serial", .int (fs.length : Int)), ("stack", .ref sa), ("now", .ref tn), ("events", .ref ea), ("entered", .ref na), ("collections", (.int 0))]) := upd_same
  have fK := fr_upd (o := .ins CM dx (putF "collections" (.int 0) [("functions", .ref fa), ("heap", .ref p0.ho), ("next_serial", .int (fs.length : Int)), ("stack", .ref sa), ("now", .ref tn), ("events", .ref ea), ("entered", .ref na)])) hoJ fun _ z => by cases z
  have hGK := hGJ.keep fK (upd_ne nOo) (upd_ne nDo)
  have kK : KeepO o H (upd GJ o (.ins CM dx (putF "collections" (.int 0) [("functions", .ref fa), ("heap", .ref p0.ho), ("next_serial", .int (fs.length : Int)), ("stack", .ref sa), ("now", .ref tn), ("events", .ref ea), ("entered", .ref na)]))) := fun b u n e => by rw [upd_ne n]; exact kJ _ _ n e
  have eSK : upd GJ o (.ins CM dx (putF "collections" (.int 0) [("functions", .ref fa), ("heap", .ref p0.ho), ("next_serial", .int (fs.length : Int)), ("stack", .ref sa), ("now", .ref tn), ("events", .ref ea), ("entered", .ref na)])) sa = _ := (upd_ne nsa.1).trans eSJ
  have e1K := fK.1 _ _ e1J
  have eNK := fK.1 _ _ eNJ
  have eeaK : upd GJ o (.ins CM dx (putF "collections" (.int 0) [("functions", .ref fa), ("heap", .ref p0.ho), ("next_serial", .int (fs.length : Int)), ("stack", .ref sa), ("now", .ref tn), ("events", .ref ea), ("entered", .ref na)])) ea = _ := (upd_ne nea.1).trans eeaJ
  have enaK : upd GJ o (.ins CM dx (putF "collections" (.int 0) [("functions", .ref fa), ("heap", .ref p0.ho), ("next_serial", .int (fs.length : Int)), ("stack", .ref sa), ("now", .ref tn), ("events", .ref ea), ("entered", .ref na)])) na = _ := (upd_ne nna.1).trans enaJ
  generalize upd GJ o (.ins CM dx (putF "collections" (.int 0) [("functions", .ref fa), ("heap", .ref p0.ho), ("next_serial", .int (fs.length : Int)), ("stack", .ref sa), ("now", .ref tn), ("events", .ref ea), ("entered", .ref na)])) = GK at hoK hGK kK eSK e1K eNK eeaK enaK ⊢
  refine q ⟨o, p0.ho, p0.hd, sa, ea, na, room, .ref fa⟩ (.ref tn) GK rfl rfl rfl (off hhO nOo) (off hd1 nDo) hsaN heaN hnaN kK ⟨?_, ⟨dx, hoK⟩, ?_, ⟨_, eSK, ?_⟩, ⟨_, eeaK, rfl⟩, ⟨_, enaK, rfl⟩⟩ ?_
  · exact ⟨nOo.symm, nDo.symm, nsa.1.symm, nea.1.symm, nna.1.symm, nod, nsa.2.1.symm, nea.2.1.symm, nna.2.1.symm, nsa.2.2.symm, nea.2.2.symm, nna.2.2.symm, neasa.symm, nnasa.symm, nnaea.symm⟩
  · obtain ⟨⟨dy, h1⟩, kvs, h2, h3⟩ := hGK
    exact ⟨⟨dy, by rw [← hp2]; exact h1⟩, kvs, h2, h3⟩
  · exact ats_cons (at_tup e1K (ats_cons (at_str' (by decide +kernel)) ats_nil)) ats_nil
  · exact at_tup eNK (ats_cons (at_str' (by decide +kernel)) (ats_cons rfl ats_nil))
end
end Toy

set_option Elab.async false
set_option linter.all false
set_option maxRecDepth 100000
set_option maxHeartbeats 4000000
/-! Part O: code is run. -/
namespace L2
open PySem PySem.Spec PyProof.Rows
/-- a dict comprehension over a list that stays -/
theorem dc_list {K : PySem.W.Frag} {a : Addr} {xs : List V} {g : TG} {tt : TT} {tk tv : TE} {vs : List Nat} {σ : St} {H1 : Hp} {D : Addr} {Qd : Hp → Prop} (Pv : Nat → Hp → Prop) (h0 : Pv 0 (upd H1 D (.dK []))) (hl : ∀ i H, i ≤ xs.length → Pv i H → SqL K H a xs)
    (hs : ∀ i x H, xs[i]? = some x → Pv i H → g x (wipe σ vs) H fun σ2 H2 => wipe σ2 vs = wipe σ vs ∧ tt σ2 H2 fun b H3 =>
      if b = true then tk σ2 H3 fun y H4 => tv σ2 H4 fun z H5 => ∃ kvs k, y = kV k ∧ H5 D = some (.dK kvs) ∧ kvs.length < sizeLine ∧ Pv (i + 1) (upd H5 D (.dK (putK kvs k z))) else Pv (i + 1) H3) (hd : ∀ H, Pv xs.length H → Qd H) :
    ∃ W : Nat → Nat → Hp → Prop, (∃ m, W 0 m (upd H1 D (.dK []))) ∧ ∀ i m H, W i m H →
      ((Itl K a).stop i H ∧ Qd H) ∨ ((Itl K a).go i H ∧ ∃ Nx : Hp → Prop, (∀ H', Nx H' → ∃ m', m' < m ∧ W (i + 1) m' H') ∧ ∀ x H', (Itl K a).yld i H x H' → g x (wipe σ vs) H' fun σ2 H2 => wipe σ2 vs = wipe σ vs ∧ tt σ2 H2 fun b H3 =>
        if b = true then tk σ2 H3 fun y H4 => tv σ2 H4 fun z H5 => ∃ kvs k, y = kV k ∧ H5 D = some (.dK kvs) ∧ kvs.length < sizeLine ∧ Nx (upd H5 D (.dK (putK kvs k z))) else Nx H3) := by
  refine ⟨fun i m H => m = xs.length - i ∧ i ≤ xs.length ∧ Pv i H, ⟨xs.length, by simp, Nat.zero_le _, h0⟩, ?_⟩
  rintro i m H ⟨rfl, hi, p⟩
  have q := hl i H hi p
  by_cases hlt : i < xs.length
  · refine .inr ⟨⟨xs, xs[i], q, by simp [hlt]⟩, Pv (i + 1), fun H' p' => ⟨xs.length - (i + 1), by omega, rfl, hlt, p'⟩, fun x H' y => ?_⟩
    obtain ⟨e, y⟩ := y
    subst e
    exact hs i x _ (y xs q) p
  · have e : i = xs.length := by omega
    subst e
    exact .inl ⟨⟨xs, q, Nat.le_refl _⟩, hd H p⟩
end L2
namespace Toy
open PySem PySem.Spec PyProof.Rows L2
/-! ### y = {k: v for ..} -/
section
variable {X : Cx}
theorem ps_setDc {i : Nat} {y : Str} {py : Pos} {kx vx tg iter : Expr} {ifs : List Expr} {scope : Scope} {own : List (Str × Nat)} {pos spos : Pos} {wi : TI} {g : TG} {tt : TT} {tk tv : TE} (hc : X.calm = true) (hN : X.N.Nodup) (hy : X.N[i]? = some y) (hyl : X.env.scope.names.lookup y = some .local)
    (hsw : swapsWith (.DictComp kx vx [⟨tg, iter, ifs, 0⟩] scope pos) (some (.Name y py)) spos.line X.env = pure true) (hi : PI X tg iter wi) (ok : BlkOk X.N X.env.scope scope own)
    (hg : ∀ (s : Shared) (H : Hp) (C : Addr) (cl : List (Str × Addr)) (fp : List Addr), PG (X.blk s H scope (compEnvC scope cl C X.env) fp) tg g) (ht : ∀ (s : Shared) (H : Hp) (C : Addr) (cl : List (Str × Addr)) (fp : List Addr), PTs (X.blk s H scope (compEnvC scope cl C X.env) fp) ifs tt)
    (hk : ∀ (s : Shared) (H : Hp) (C : Addr) (cl : List (Str × Addr)) (fp : List Addr), PE (X.blk s H scope (compEnvC scope cl C X.env) fp) kx tk)
    (he : ∀ (s : Shared) (H : Hp) (C : Addr) (cl : List (Str × Addr)) (fp : List Addr), PE (X.blk s H scope (compEnvC scope cl C X.env) fp) vx tv) (hs : ∀ x, foldedSetIterable iter X.env x = pure x := by intro _; rfl) :
    PS X (.Assign [.Name y py] (.DictComp kx vx [⟨tg, iter, ifs, 0⟩] scope pos) spos) (tAsg (tDc wi g tt tk tv (own.map (·.2))) (gName i)) := by
  refine ⟨fun pins s σ H D I h => ?_⟩
  rw [exec_Assign_Name_used _ _ _ _ hsw]
  refine wpAny_bind (wpAny_standAt (wpAny_bind ?_))
  show wpAny _ X.A (do let _ ← comprehension (.DictComp kx vx [⟨tg, iter, ifs, 0⟩] scope pos) scope X.env (firstIterPos [⟨tg, iter, ifs, 0⟩] pos) newDict false (eval iter X.env) (some (assign (.Name y py) X.env))) _ _ s
  have h : tDc wi g tt tk tv (own.map (·.2)) σ H (fun x H1 => gName i x σ H1 D.nx) := h
  refine wpAny_bind (thn (dc_core (Qf := fun _ s' => SP X pins D .next s') hc hN I hi ok hg ht hk he hs h fun L C s' m H' I' q hn f => ?_) fun _ s' hq => wpAny_pure (wpAny_pure hq))
  show wpAny _ _ (assign (.Name y py) X.env (.ref L)) _ _ _
  refine wpAny_assign_Name (store_ok2 (v := V.ref L) I' hN hy (.inl hyl) rfl (fun s2 I2 ⟨a, sb, ha⟩ => ?_) (.inr hyl))
  obtain ⟨f0, f1, f2, f3, f4, f5⟩ := f
  have haC : C ≠ a := by
    rcases ha with z | z
    · rw [z]; exact f1
    · exact fun e => f4 y a z e.symm
  refine ⟨m, hn.sameBut sb haC, fun h3 sb3 => ?_⟩
  exact ⟨_, H', I2.turned (t' := s2.toks) (fun b o hb e => (sb3.2 b hb).trans e) f0 f1 f3 f4 f5, q⟩
theorem sw_trueD {kx vx : Expr} {gs : List Comprehension} {scope : Scope} {pos py : Pos} {y : Str} {l : Nat} {env : Env} (hk : env.scope.kind = .function) (hy : env.scope.names.lookup y = some .local) (hl : (py.line == pos.line) = true)
    (ha : (scope.names.any fun (n, k) => n == y && (k == .local || k == .cell)) = false) : swapsWith (.DictComp kx vx gs scope pos) (some (.Name y py)) l env = pure true := by
  have ky : env.kindOf y = some .local := hy
  have hb : env.blockKind = .function := by unfold Env.blockKind; rw [hk]; rfl
  unfold swapsWith
  simp only [hb, ky, ha, Expr.pos, hl]
  rfl
end
end Toy
namespace Toy
open PySem L2
open PyProof.Rows (envOfC)
/-- so many steps, or until it stops; there is always room -/
inductive RunS (fs : List (Int × Dd)) (room : Int) : Nat → Nw → Mc → Nw → Mc → Prop
  | stop {k : Nat} {n : Nw} {m : Mc} : n.run = false → RunS fs room k n m n m
  | more {n : Nw} {m : Mc} : RunS fs room 0 n m n m
  | step {k : Nat} {n n' n'' : Nw} {m m' m'' : Mc} : n.run = true → m.small → StS fs n m n' m' → (∀ z, NeedN fs n m z → used m.cs + z ≤ room) → RunS fs room k n' m' n'' m'' → RunS fs room (k + 1) n m n'' m''
/-- what a report says -/
def RepAt (K : PySem.W.Frag) (H : Hp) (n : Nw) (m : Mc) (v : V) : Prop := ∃ t te sv xs, v = .ref t ∧ H t = some (.tup [.ref te, sv, .int (m.ent.length : Int), .int 0]) ∧ H te = some (.tup xs) ∧ Dd.Ats F0 H (m.evs.map Ev.D) xs ∧ if n.run = true then (Dd.tup [.str "more"]).At F0 H sv else NwAt K H n sv
structure TxtRc (P : Program) (w : World) (K : PySem.W.Frag) (mg : Str → Option Value) (base : Heap) (CM CH pS fS : Addr) (fdS : FuncData) : Prop extends TxtStep P w K mg base CM CH pS fS fdS where
  zrange : mg "range" = none
  zlen : mg "len" = none
  ztuple : mg "tuple" = none
section
variable {P : Program} {w : World} {K : PySem.W.Frag} {mg : Str → Option Value} {base : Heap} {CM CH pS fS : Addr} {fdS : FuncData}
abbrev sRunCode : Stmt := topS 60
theorem scRunCode : FnScope ["program", "room", "schedule", "steps", "machine", "number", "scheduled", "state"] ["program", "room", "schedule", "steps"] (defScope sRunCode) := ⟨rfl, rfl, rfl, by decide +kernel, rfl, by decide +kernel, by decide +kernel⟩
def spRunCode (K : PySem.W.Frag) : Sp := fun vs H Q _ => ∃ (fa ga la : Addr) (xs : List V) (main room : Int) (N : Nat) (fs : List (Int × Dd)) (n : Nw) (m : Mc), vs = [.ref ga, .int room, .ref la, .int (N : Int)] ∧ H ga = some (.tup [.ref fa, .int main]) ∧ H fa = some (.tup xs) ∧ Dd.Ats F0 H (fs.map fnD) xs ∧ fs.length ≤ 1000 ∧ H la = some (.lst []) ∧ N ≤ 100000 ∧ RunS fs room N (.enter (2 * main)) (startM fs) n m ∧
  ∀ (v : V) (H' : Hp), Same H H' → RepAt K H' n m v → Q v H'
theorem c_runcode {f : Addr} {fd : FuncData} (T : TxtRc P w K mg base CM CH pS fS fdS) (cMachine : C8.Mak P w K mg base 3 "Machine" CM (spMInit K CM CH) []) (ccollect : C8.Met P w K mg base 1 CM "collect" (fun _ _ _ _ => False) []) (cstep : C8.Met P w K mg base 6 CM "step" (spStep K CM CH) []) (F : Fun K "run_code" "run_code" sRunCode f fd) (b : Binds K fd ["program", "room", "schedule", "steps"] []) (hm : mg "run_code" = some (.ref f)) : C8.Cal P w K mg base 7 "run_code" (spRunCode K) [] := by
  refine cal_of F hm b scRunCode (fun vs H Q E h => ?_) (fun cdv A outer s H vs Q E hr h => ?_)
  · obtain ⟨fa, ga, la, xs, main, room, N, fs, n, m, rfl, _⟩ := h
    rfl
  obtain ⟨fa, ga, la, xs, main, room, N, fs, n, m, rfl, hga, hfa, hfx, hfl, hla, hN, hrun, q⟩ := h
  have hu := hu_of hr
  refine ⟨_, (pss_cons (ps_set (i := 4) scRunCode.nd rfl (Or.inl rfl) (C8.pe_mk cMachine hr (by decide) rfl (pa_cons (pv 0) (pa_cons (pv 1) pa_nil))))
    (pss_cons (ps_setDc (i := 6) (own := [("number", 5)]) (g := gName 5) (tt := tYes) rfl scRunCode.nd rfl rfl (sw_trueD rfl rfl rfl (by decide +kernel)) (pi_list (pv 2)) (blkOk_by (own := [("number", 5)]) (N := ["program", "room", "schedule", "steps", "machine", "number", "scheduled", "state"]) (sc := defScope sRunCode) (by decide +kernel)) (fun _ _ _ _ _ => (pg_name (i := 5) scRunCode.nd rfl (Or.inl rfl))) (fun _ _ _ _ _ => pts_nil) (fun _ _ _ _ _ => (pv 5)) (fun _ _ _ _ _ => pe_bl))
    (C8.pss_cut (ps_for PassesOwn.never rfl (pi_range1 rfl T.zrange (pa_cons (pv 3) pa_nil)) (pg_name (i := 5) scRunCode.nd rfl (Or.inl rfl))
      (pss_cons (ps_if (pt_val (pe_prop (E := C8.E0) (pv 4) T.cl T.hpStop T.fStop (hr.mono (by decide)) T.bStop .nil C8.pass0 rfl))
      (pss_one ps_break)
      pss_nil)
    (pss_cons (ps_if (pt_cmp (pc_din hu (pv 5) (pv 6)))
      (pss_one (ps_expr (C8.pe_mt0 ccollect hr (by decide) (pv 4))))
      pss_nil)
    (pss_one (ps_expr (C8.pe_mt0 cstep hr (by decide) (pv 4)))))))
    (C8.pss_cut (ps_set (i := 7) scRunCode.nd rfl (Or.inl rfl) (pe_ifExp (pt_val (pe_prop (E := C8.E0) (pv 4) T.cl T.hpStop T.fStop (hr.mono (by decide)) T.bStop .nil C8.pass0 rfl)) (pe_fld (pv 4) rfl) (pe_tup (pa_cons pe_str pa_nil))))
    (pss_one (ps_ret (pe_tup (pa_cons (pe_callTy call_tuple_of rfl T.ztuple boot_tuple (pa_cons (pe_fld (pv 4) rfl) pa_nil)) (pa_cons (pv 7) (pa_cons (pe_callB call_len_seq rfl T.zlen PySem.boot_len (pa_cons (pe_fld (pv 4) rfl) pa_nil)) (pa_cons (pe_fld (pv 4) rfl) pa_nil))))))))))), ?_⟩
  refine ⟨_, rfl, _, rfl, fun mo dx hmo hdx nex => ?_⟩
  have s1 : Same H (upd (upd H dx (.own mo)) mo (.ins CM dx [])) := fun b u e => by
    rw [upd_ne (ne_of_none e hmo), upd_ne (ne_of_none e hdx)]
    exact e
  refine ⟨mo, dx, fa, ga, xs, main, room, fs, rfl, upd_same, s1 _ _ hga, s1 _ _ hfa, hfx.keep (fr_same s1), hfl, fun p nv H1 hp1 hp2 hp3 f1 f2 f3 f4 f5 k1 M1 hn1 => ⟨rfl, ?_⟩⟩
  subst hp1
  -- the machine is new
  have new : ∀ {G : Hp}, KeepM p H1 G → Same H G := fun {G} k b u e => by
    have e1 := s1 _ _ e
    exact k b u (ne_of_none e hmo) (ne_of_none e1 f1) (ne_of_none e1 f2) (ne_of_none e1 f3) (ne_of_none e1 f4) (ne_of_none e1 f5) (k1 _ _ (ne_of_none e hmo) e1)
  refine ⟨_, rfl, la, rfl, ⟨_, SqL.of (new KeepM.refl _ _ hla)⟩, fun D hD => ?_⟩
  have s2 := same_new hD (.dK [])
  have M2 := M1.same s2
  have hn2 := hn1.keep s2
  have eD : upd H1 D (.dK []) D = some (.dK []) := upd_same
  have new2 : ∀ {G : Hp}, KeepM p (upd H1 D (.dK [])) G → Same H G := fun {G} k => new ((KeepM.same s2).trans k)
  have hla2 := s2 _ _ (new KeepM.refl _ _ hla)
  have hF2 : FsAt (upd H1 D (.dK [])) fs p.fv := ⟨fa, xs, hp3, new2 KeepM.refl _ _ hfa, hfx.keep (fr_same (new2 KeepM.refl))⟩
  refine dc_list (K := K) (a := la) (xs := []) (fun i G => G = upd H1 D (.dK [])) rfl (fun i G hi h => by rw [h]; exact SqL.of hla2) (fun i x G hx => by simp at hx) ?_
  rintro _ rfl
  generalize upd H1 D (.dK []) = H2 at s2 M2 hn2 eD new2 hla2 hF2 ⊢
  have nD : D ≠ p.mo ∧ D ≠ p.ho ∧ D ≠ p.hd ∧ D ≠ p.sa ∧ D ≠ p.ea ∧ D ≠ p.na := by
    obtain ⟨_, ⟨dy, o1⟩, ⟨⟨dz, o2⟩, kvs, o3, _⟩, ⟨_, o4, _⟩, ⟨_, o5, _⟩, ⟨_, o6, _⟩⟩ := M1
    refine ⟨fun z => ?_, fun z => ?_, fun z => ?_, fun z => ?_, fun z => ?_, fun z => ?_⟩
    · rw [z, o1] at hD; cases hD
    · rw [z, o2] at hD; cases hD
    · rw [z, o3] at hD; cases hD
    · rw [z, o4] at hD; cases hD
    · rw [z, o5] at hD; cases hD
    · rw [z, o6] at hD; cases hD
  -- the loop
  refine ⟨fun σ' G => ∃ (v5 v7 : Option V) (nv : V), σ' = [some (.ref ga), some (.int room), some (.ref la), some (.int (N : Int)), some (.ref p.mo), v5, some (.ref D), v7] ∧ KeepM p H2 G ∧ MkAt CM CH G p m nv 0 ∧ NwAt K G n nv, ?_, ?_⟩
  · refine ⟨_, rfl, (N : Int), rfl, by omega, by omega, for_range (fun i σ G => ∃ (v5 v7 : Option V) (nv : V) (ni : Nw) (mi : Mc), σ = [some (.ref ga), some (.int room), some (.ref la), some (.int (N : Int)), some (.ref p.mo), v5, some (.ref D), v7] ∧ KeepM p H2 G ∧ MkAt CM CH G p mi nv 0 ∧ NwAt K G ni nv ∧ RunS fs room (N - i) ni mi n m)
      ⟨_, _, nv, _, _, rfl, KeepM.refl, M2, hn2, hrun⟩ ?_ ?_⟩
    · rintro i σ G hi ⟨v5, v7, nv, ni, mi, rfl, kG, MG, hnG, hr⟩
      have hi2 : i < N := by simpa using hi
      obtain ⟨dxG, hoG⟩ := MG.o
      refine ⟨_, rfl, p.mo, dxG, _, rfl, hoG, p, mi, nv, 0, ni, rfl, MG, hnG, ?_⟩
      refine ⟨_, rfl, ?_⟩
      obtain ⟨k, hk⟩ : ∃ k, N - i = k + 1 := ⟨N - i - 1, by omega⟩
      rw [hk] at hr
      cases hr with
      | stop h =>
        rw [h]
        refine iteT ?_
        exact ⟨_, _, nv, rfl, kG, MG, hnG⟩
      | @step _ _ n1 _ _ m1 _ h hs hst hfit hr1 =>
        rw [h]
        refine iteF ?_
        refine ⟨_, rfl, _, rfl, D, _, rfl, DGet.k (k := Sum.inl (0 + (i : Int))) (kG _ _ nD.1 nD.2.1 nD.2.2.1 nD.2.2.2.1 nD.2.2.2.2.1 nD.2.2.2.2.2 eD), ?_⟩
        refine ⟨_, rfl, ?_⟩
        refine iteF ?_
        refine ⟨_, rfl, p.mo, dxG, _, rfl, hoG, fM_no_step .., p, mi, m1, nv, 0, fs, ni, n1, rfl, MG, hnG, hF2.keep (M2.fr kG), hs, h, hst, by rw [hp2]; exact hfit, fun nv' G' k' M' hn' => ?_⟩
        exact ⟨_, _, nv', n1, m1, rfl, kG.trans k', M', hn', by rw [show N - (i + 1) = k by omega]; exact hr1⟩
    · rintro σ G ⟨v5, v7, nv, ni, mi, rfl, kG, MG, hnG, hr⟩
      rw [show N - ((N : Int)).toNat = 0 by omega] at hr
      cases hr with
      | stop h => exact ⟨_, _, nv, rfl, kG, MG, hnG⟩
      | more => exact ⟨_, _, nv, rfl, kG, MG, hnG⟩
  rintro _ G ⟨v5, v7, nvE, rfl, kG, MG, hnG⟩
  obtain ⟨dxG, hoG⟩ := MG.o
  -- the state
  refine ⟨fun σ' G' => ∃ sv : V, σ' = [some (.ref ga), some (.int room), some (.ref la), some (.int (N : Int)), some (.ref p.mo), v5, some (.ref D), some sv] ∧ Same G G' ∧ (if n.run = true then (Dd.tup [.str "more"]).At F0 G' sv else NwAt K G' n sv), ?_, ?_⟩
  · refine ⟨_, rfl, p.mo, dxG, _, rfl, hoG, p, m, nvE, 0, n, rfl, MG, hnG, ?_⟩
    refine ⟨_, rfl, ?_⟩
    cases hc : n.run with
    | false =>
      refine iteT ?_
      refine ⟨_, rfl, p.mo, CM, dxG, _, _, rfl, hoG, T.cl, T.n_now, fM_now .., nvE, rfl, same_id, ?_⟩
      rw [if_neg (by decide)]
      exact hnG
    | true =>
      refine iteF ?_
      refine ⟨by show 1 ≤ sizeLine; decide, fun t ht => ⟨_, rfl, same_new ht _, ?_⟩⟩
      rw [if_pos rfl]
      exact at_tup upd_same (ats_cons (at_str' (by decide +kernel)) ats_nil)
  rintro _ G2 ⟨sv, rfl, s3, hsv⟩
  have MG2 := MG.same s3
  obtain ⟨dx2, ho2⟩ := MG2.o
  obtain ⟨es, hes, hesA⟩ := id MG2.e
  refine ⟨_, rfl, p.mo, CM, dx2, _, _, rfl, ho2, T.cl, T.n_events, fM_events .., p.ea, es, rfl, .inl ⟨SqL.of hes, fun te hte => ?_⟩⟩
  have s4 := same_new hte (.tup es)
  have eT : upd G2 te (.tup es) te = some (.tup es) := upd_same
  have MG3 := MG2.same s4
  generalize upd G2 te (.tup es) = G3 at s4 eT MG3 ⊢
  obtain ⟨dx3, ho3⟩ := MG3.o
  obtain ⟨ns, hns, hnsA⟩ := id MG3.n
  have hnl := ats_len hnsA
  rw [List.length_map] at hnl
  refine ⟨_, rfl, _, rfl, p.mo, CM, dx3, _, _, rfl, ho3, T.cl, T.n_entered, fM_entered .., p.na, ns, rfl, .inl (SqL.of hns), _, rfl, p.mo, CM, dx3, _, _, rfl, ho3, T.cl, T.n_collections, fM_collections .., by show 4 ≤ sizeLine; decide, fun t ht => ?_⟩
  have s5 := same_new ht (.tup [.ref te, sv, .int (ns.length : Int), .int 0])
  have s345 := sameT s3 (sameT s4 s5)
  refine q _ _ (sameT (new2 kG) s345) ⟨t, te, sv, es, rfl, ?_, s5 _ _ eT, hesA.keep (fr_same (sameT s4 s5)), ?_⟩
  · rw [upd_same, hnl]
  · split
    · rename_i h
      rw [if_pos h] at hsv
      exact hsv.keep (fr_same (sameT s4 s5))
    · rename_i h
      rw [if_neg h] at hsv
      exact hsv.keep (sameT s4 s5)
end
end Toy

set_option Elab.async false
set_option linter.all false
set_option maxRecDepth 100000
set_option maxHeartbeats 4000000
/-! Part P: what the law's code does, in plain Lean. -/
namespace Toy
open PySem L2
/-- it stops within so many steps -/
inductive RunT (fs : List (Int × Dd)) (room : Int) : Nat → Nw → Mc → Nw → Mc → Prop
  | stop {k : Nat} {n : Nw} {m : Mc} : n.run = false → RunT fs room k n m n m
  | step {k : Nat} {n n' n'' : Nw} {m m' m'' : Mc} : n.run = true → m.small → StS fs n m n' m' → (∀ z, NeedN fs n m z → used m.cs + z ≤ room) → RunT fs room k n' m' n'' m'' → RunT fs room (k + 1) n m n'' m''
section
variable {fs : List (Int × Dd)} {room : Int}
theorem RunT.mono {k : Nat} {n n' : Nw} {m m' : Mc} (h : RunT fs room k n m n' m') (j : Nat) : RunT fs room (k + j) n m n' m' := by
  induction h with
  | stop h => exact .stop h
  | @step k _ _ _ _ _ _ h1 h2 h3 h4 _ ih =>
    rw [show k + 1 + j = k + j + 1 by omega]
    exact .step h1 h2 h3 h4 ih
theorem RunT.more {k k' : Nat} {n n' : Nw} {m m' : Mc} (h : RunT fs room k n m n' m') (e : k ≤ k') : RunT fs room k' n m n' m' := by
  have := h.mono (k' - k)
  rwa [show k + (k' - k) = k' by omega] at this
theorem RunT.to {k : Nat} {n n' : Nw} {m m' : Mc} (h : RunT fs room k n m n' m') : RunS fs room k n m n' m' := by
  induction h with
  | stop h => exact .stop h
  | step h1 h2 h3 h4 _ ih => exact .step h1 h2 h3 h4 ih
theorem RunT.ends {k : Nat} {n n' : Nw} {m m' : Mc} (h : RunT fs room k n m n' m') : n'.run = false := by
  induction h with
  | stop h => exact h
  | step _ _ _ _ _ ih => exact ih
theorem RunT.en {k : Nat} {w : Int} {n n' : Nw} {m m1 m' : Mc} (h : EnS w m n m1) (hs : m.small) (hu : used m.cs ≤ room) (r : RunT fs room k n m1 n' m') : RunT fs room (k + 1) (.enter w) m n' m' :=
  .step rfl hs (.enter h) (fun z hz => by have hz : z = 0 := hz; omega) r
theorem RunT.ev {k : Nat} {z : Wd} {r0 : List Dd} {ws : List Int} {n n' : Nw} {m m1 m' : Mc} (h : EvS z r0 ws m n m1) (hs : m.small) (hu : used m.cs + needE (.tup (.str z.str :: r0)) ≤ room) (r : RunT fs room k n m1 n' m') : RunT fs room (k + 1) (.eval (.tup (.str z.str :: r0)) ws) m n' m' :=
  .step rfl hs (.eval h) (fun z hz => by have hz : z = _ := hz; rw [hz]; exact hu) r
theorem needM_le {f : Fm} {l : Vl} (h : ∀ ws, f ≠ .apply ws) : needM fs f l ≤ 1 := by
  unfold needM
  split
  · exact absurd rfl (h _)
  · split <;> decide
  · decide
theorem RunT.vl {k : Nat} {w : Int} {f : Fm} {l : Vl} {stk : List Fm} {n n' : Nw} {m m1 m' : Mc} (hst : m.stk = stk ++ [f]) (hl : VlS w m l) (h : MtS fs f w { m with stk := stk } n m1) (hf : ∀ ws, f ≠ .apply ws) (hs : m.small) (hu : used m.cs + 1 ≤ room) (r : RunT fs room k n m1 n' m') : RunT fs room (k + 1) (.val w) m n' m' :=
  .step rfl hs (.val hst hl h) (fun z hz => by
    obtain ⟨stk', f', l', e1, _, e3⟩ := hz
    rw [hst] at e1
    have : f = f' := by
      have := congrArg List.getLast? e1
      rw [List.getLast?_append, List.getLast?_append] at this
      exact Option.some.inj this
    subst this
    have := needM_le (fs := fs) (l := l') hf
    omega) r
end
/-! ### items -/
abbrev Itm := Str × Int × Int
def numD (i : Int) : Dd := .tup [.str "number", .int i]
def giveD (i : Int) : Dd := .tup [.str "give", numD i]
def primD (s : Str) (i j : Int) : Dd := .tup [.str "prim", .str s, numD i, numD j]
def rowsD : List Dd := [.tup [.int 0, .int 0, giveD 0], .tup [.int 1, .int 0, giveD 1]]
def termD (s : Str) (i j : Int) : Dd := if s ∈ ineqs then .tup [.str "case", primD s i j, .tup rowsD, .non] else primD s i j
def slotD (i : Int) : Dd := .tup [.str "slot", .int i]
def bodyD : List Itm → Dd
  | [] => .tup [.str "con", .int 0, .tup []]
  | (s, i, j) :: l => .tup [.str "let", .tup [.tup [.str "later", .tup [], termD s i j], .tup [.str "later", .tup [], bodyD l]], .tup [.str "con", .int 1, .tup [slotD 0, slotD 1]]]
/-- what an item shows -/
def evPr : Pr → Ev
  | .tf b => .shw (if b = true then 1 else 0)
  | .num x => .shw x
  | .fault f => .fault f
def resE (s : Str) (i j : Int) : Ev := evPr (primR s i j)
def shownE : List Itm → List Ev
  | [] => [.fin]
  | (s, i, j) :: l => match resE s i j with
    | .shw x => .shw x :: shownE l
    | e => [e]
def entN : List Itm → Nat
  | [] => 1
  | (s, i, j) :: l => match resE s i j with
    | .shw _ => 2 + entN l
    | _ => 2
def ItmOk (q : Itm) : Prop := q.1 ∈ signs ∧ NumIn q.2.1 ∧ NumIn q.2.2
def endN : Ev → Nw
  | .fin => .fin
  | .fault f => .fault f
  | _ => .loop
/-- there is room for some more -/
structure Has (room : Int) (B : Nat) (m : Mc) : Prop where
  c : m.cs.length + B ≤ 90000
  s : m.stk.length + B ≤ 90000
  e : m.evs.length + B ≤ 90000
  n : m.ent.length + B ≤ 90000
  u : used m.cs + (B : Int) ≤ room
theorem Has.small {room : Int} {B : Nat} {m : Mc} (h : Has room B m) : m.small := ⟨by have := h.c; omega, by have := h.s; omega, by have := h.e; omega, by have := h.n; omega⟩
theorem Has.fit0 {room : Int} {B : Nat} {m : Mc} (h : Has room B m) : used m.cs ≤ room := by have := h.u; omega
theorem Has.fit1 {room : Int} {B : Nat} {m : Mc} (h : Has room (B + 1) m) : used m.cs + 1 ≤ room := by have := h.u; omega
theorem Has.fit {room : Int} {B : Nat} {m : Mc} (h : Has room B m) {z : Int} (e : z ≤ (B : Int)) : used m.cs + z ≤ room := by have := h.u; omega
theorem Has.le {room : Int} {B : Nat} {m : Mc} (h : Has room B m) {B' : Nat} (e : B' ≤ B) : Has room B' m := ⟨by have := h.c; omega, by have := h.s; omega, by have := h.e; omega, by have := h.n; omega, by have := h.u; omega⟩
section
variable {fs : List (Int × Dd)} {room : Int}
theorem Has.push {B : Nat} {m : Mc} (h : Has room (B + 1) m) (f : Fm) : Has room B (m.push f) := ⟨by have := h.c; show m.cs.length + B ≤ 90000; omega, by have := h.s; show (m.stk ++ [f]).length + B ≤ 90000; rw [List.length_append]; show m.stk.length + 1 + B ≤ 90000; omega, by have := h.e; show m.evs.length + B ≤ 90000; omega, by have := h.n; show m.ent.length + B ≤ 90000; omega, by have := h.u; show used m.cs + (B : Int) ≤ room; omega⟩
theorem Has.ev {B : Nat} {m : Mc} (h : Has room (B + 1) m) (f : Ev) : Has room B (m.ev f) := ⟨by have := h.c; show m.cs.length + B ≤ 90000; omega, by have := h.s; show m.stk.length + B ≤ 90000; omega, by have := h.e; show (m.evs ++ [f]).length + B ≤ 90000; rw [List.length_append]; show m.evs.length + 1 + B ≤ 90000; omega, by have := h.n; show m.ent.length + B ≤ 90000; omega, by have := h.u; show used m.cs + (B : Int) ≤ room; omega⟩
theorem Has.stk {B : Nat} {m : Mc} (h : Has room B m) {stk : List Fm} (e : stk.length ≤ m.stk.length) : Has room B { m with stk := stk } := ⟨h.c, by have := h.s; show stk.length + B ≤ 90000; omega, h.e, h.n, h.u⟩
theorem Has.cell {B C : Nat} {m : Mc} (h : Has room (B + C) m) {c : Cl} (e : c.size ≤ C) (e1 : 1 ≤ C) : Has room B (m.cell c) := ⟨by have := h.c; show (m.cs ++ [c]).length + B ≤ 90000; rw [List.length_append]; show m.cs.length + 1 + B ≤ 90000; omega, by have := h.s; show m.stk.length + B ≤ 90000; omega, by have := h.e; show m.evs.length + B ≤ 90000; omega, by have := h.n; show m.ent.length + B ≤ 90000; omega, by
  have := h.u
  show used (m.cs ++ [c]) + (B : Int) ≤ room
  rw [used_app]
  show used m.cs + ((c.size : Int) + 0) + (B : Int) ≤ room
  omega⟩
theorem Has.set {B : Nat} {m : Mc} (h : Has room B m) {a : Nat} {c d : Cl} (e : m.cs[a]? = some d) (hz : c.size = d.size) : Has room B { m with cs := m.cs.set a c } := ⟨by have := h.c; show (m.cs.set a c).length + B ≤ 90000; rw [List.length_set]; exact this, h.s, h.e, h.n, by
  have := h.u
  show used (m.cs.set a c) + (B : Int) ≤ room
  rw [used_set e, hz]
  omega⟩
theorem need0 {z : Wd} (h1 : z.str ≠ "con") (h2 : z.str ≠ "let") (r : List Dd) : needE (.tup (.str z.str :: r)) = 0 := by
  show (if _ = _ then _ else if _ = _ then _ else (0 : Int)) = 0
  rw [if_neg h1, if_neg h2]
theorem RunT.ev0 {k : Nat} {z : Wd} {r0 : List Dd} {ws : List Int} {n n' : Nw} {m m1 m' : Mc} (h1 : z.str ≠ "con") (h2 : z.str ≠ "let") (h : EvS z r0 ws m n m1) (hs : m.small) (hu : used m.cs ≤ room) (r : RunT fs room k n m1 n' m') : RunT fs room (k + 1) (.eval (.tup (.str z.str :: r0)) ws) m n' m' :=
  RunT.ev h hs (by rw [need0 h1 h2]; omega) r
theorem op_num (i : Int) : OpS (numD i) [] (2 * i + 1) := .num
/-- a prim of two numbers -/
theorem run_prim {s : Str} {i j : Int} {k : Nat} {n n' : Nw} {m m1 m' : Mc} (h : Has room 4 m) (hs : s.length ≤ 1000) (hp : MtS fs (.prim s i) (2 * j + 1) m n m1) (r : RunT fs room k n m1 n' m') : RunT fs room (k + 5) (.eval (primD s i j) []) m n' m' := by
  have h1 : Has room 3 (m.push (.right s (numD j) [])) := Has.push h _
  have h2 : Has room 3 (m.push (.prim s i)) := Has.push h _
  refine RunT.ev0 (z := .prim) (by decide +kernel) (by decide +kernel) (EvS.prim (op_num i) hs) h.small h.fit0 ?_
  refine RunT.en EnS.odd h1.small h1.fit0 ?_
  refine RunT.vl (f := .right s (numD j) []) rfl VlS.odd (MtS.right VlS.odd (op_num j) hs) (fun _ e => by cases e) h1.small h1.fit1 ?_
  refine RunT.en EnS.odd h2.small h2.fit0 ?_
  exact RunT.vl (f := .prim s i) rfl VlS.odd hp (fun _ e => by cases e) h2.small h2.fit1 r
theorem signs_len : ∀ s ∈ signs, s.length ≤ 1000 := by decide +kernel
theorem fault_len {s : Str} {i j : Int} {f : Str} (h : primR s i j = .fault f) : f.length ≤ 1000 := by
  unfold primR at h
  split at h
  · cases h
  · split at h
    · cases h; decide +kernel
    · split at h
      · cases h
      · cases h; decide +kernel
theorem tf_iff {s : Str} {i j : Int} (hs : s ∈ signs) : (∃ b, primR s i j = .tf b) ↔ s ∈ ineqs := by
  unfold primR ineqs
  constructor
  · rintro ⟨b, h⟩
    split at h
    · rename_i h1
      simp only [List.mem_cons, List.not_mem_nil, or_false]
      exact h1
    · split at h
      · cases h
      · split at h <;> cases h
  · intro h
    simp only [List.mem_cons, List.not_mem_nil, or_false] at h
    exact ⟨_, if_pos h⟩
/-- a term that shows a number -/
theorem term_shw {s : Str} {i j x : Int} {m : Mc} (ok : ItmOk (s, i, j)) (h : Has room 10 m) (hr : resE s i j = .shw x) :
    ∃ m1 : Mc, (m1.cs = m.cs ∨ ∃ t, m1.cs = m.cs ++ [.con t []]) ∧ m1.stk = m.stk ∧ m1.evs = m.evs ∧ m1.ent = m.ent ∧ ∀ {k n' m'}, RunT fs room k (.val (2 * x + 1)) m1 n' m' → RunT fs room (k + 9) (.eval (termD s i j) []) m n' m' := by
  obtain ⟨hsg, hi, hj⟩ := ok
  have hsl := signs_len s hsg
  unfold termD
  unfold resE at hr
  by_cases c : s ∈ ineqs
  · obtain ⟨b, hb⟩ := (tf_iff (i := i) (j := j) hsg).mpr c
    rw [if_pos c]
    rw [hb] at hr
    have hx : (if b = true then (1 : Int) else 0) = x := by injection hr
    refine ⟨{ (m.push (.ch true rowsD .non [])).cell (.con (if b = true then 1 else 0) []) with stk := m.stk }, .inr ⟨_, rfl⟩, rfl, rfl, rfl, fun {k n' m'} r => ?_⟩
    have h1 : Has room 9 (m.push (.ch true rowsD .non [])) := Has.push h _
    refine RunT.ev0 (z := .ch true) (show ("case" : Str) ≠ "con" by decide +kernel) (show ("case" : Str) ≠ "let" by decide +kernel) (EvS.ch (c := true)) h.small h.fit0 ?_
    refine run_prim (k := k + 3) (h1.le (by decide)) hsl (MtS.primT VlS.odd hsg hi hj hb) ?_
    have h2 : Has room 6 ((m.push (.ch true rowsD .non [])).cell (.con (if b = true then 1 else 0) [])) := Has.cell (C := 3) h1 (by show 1 + 0 ≤ 3; decide) (by decide)
    have hcl : ((m.push (.ch true rowsD .non [])).cell (.con (if b = true then 1 else 0) [])).cs[m.cs.length]? = some (.con (if b = true then 1 else 0) []) := by
      show (m.cs ++ [Cl.con (if b = true then 1 else 0) []])[m.cs.length]? = _
      rw [List.getElem?_append_right (Nat.le_refl _), Nat.sub_self]
      rfl
    have hsel : selC (if b = true then 1 else 0) (([] : List Int).length : Int) rowsD = some (giveD x) := by
      rw [← hx]
      cases b <;> rfl
    have hv : VlS (2 * ((m.push (.ch true rowsD .non [])).cs.length : Int)) ((m.push (.ch true rowsD .non [])).cell (.con (if b = true then 1 else 0) [])) (.cell (.con (if b = true then 1 else 0) [])) := .even hcl
    refine RunT.vl (f := .ch true rowsD .non []) (stk := m.stk) rfl hv (MtS.case (fun q hq => ?_) (by decide) (.even hcl) hsel (by decide)) (fun _ e => by cases e) h2.small h2.fit1 ?_
    · simp only [rowsD, List.mem_cons, List.not_mem_nil, or_false] at hq
      rcases hq with rfl | rfl
      · exact ⟨_, _, _, rfl⟩
      · exact ⟨_, _, _, rfl⟩
    have h3 : Has room 6 ({ (m.push (.ch true rowsD .non [])).cell (.con (if b = true then 1 else 0) []) with stk := m.stk }) := h2.stk (by show m.stk.length ≤ (m.stk ++ [_]).length; rw [List.length_append]; omega)
    refine RunT.ev0 (z := .give) (by decide +kernel) (by decide +kernel) (r0 := [numD x]) (EvS.give (op_num x)) h3.small h3.fit0 ?_
    refine RunT.en EnS.odd h3.small h3.fit0 ?_
    exact r
  · rw [if_neg c]
    cases hp : primR s i j with
    | tf b => exact absurd ((tf_iff (i := i) (j := j) hsg).mp ⟨b, hp⟩) c
    | num y =>
      rw [hp] at hr
      have hy : y = x := by injection hr
      subst hy
      exact ⟨m, .inl rfl, rfl, rfl, rfl, fun {k n' m'} r => (run_prim (k := k) (h.le (by decide)) hsl (MtS.primN VlS.odd hsg hi hj hp) r).more (by omega)⟩
    | fault f => rw [hp] at hr; cases hr
/-- a term that gives a fault -/
theorem run_flt {s : Str} {i j : Int} {f : Str} {m : Mc} (ok : ItmOk (s, i, j)) (h : Has room 10 m) (hr : resE s i j = .fault f) : RunT fs room 9 (.eval (termD s i j) []) m (.fault f) (m.ev (.fault f)) := by
  obtain ⟨hsg, hi, hj⟩ := ok
  have hsl := signs_len s hsg
  unfold termD
  unfold resE at hr
  cases hp : primR s i j with
  | tf b => rw [hp] at hr; cases hr
  | num y => rw [hp] at hr; cases hr
  | fault f' =>
    rw [hp] at hr
    have e : f' = f := by injection hr
    subst e
    have c : s ∉ ineqs := fun c => by
      obtain ⟨b, hb⟩ := (tf_iff (i := i) (j := j) hsg).mpr c
      rw [hp] at hb
      cases hb
    rw [if_neg c]
    exact (run_prim (k := 0) (h.le (by decide)) hsl (MtS.primF VlS.odd hsg hi hj hp (fault_len hp)) (.stop rfl)).more (by omega)
theorem res_kind (s : Str) (i j : Int) : (∃ x, resE s i j = .shw x) ∨ ∃ f, resE s i j = .fault f := by
  unfold resE
  cases primR s i j with
  | tf b => exact .inl ⟨_, rfl⟩
  | num x => exact .inl ⟨_, rfl⟩
  | fault f => exact .inr ⟨_, rfl⟩
theorem get_set_ne {α : Type} {l : List α} {a b : Nat} {x : α} (h : a ≠ b) : (l.set a x)[b]? = l[b]? := by rw [List.getElem?_set, if_neg h]
theorem get_set_eq {α : Type} {l : List α} {a : Nat} {x y : α} (h : l[a]? = some y) : (l.set a x)[a]? = some x := by
  have := (List.getElem?_eq_some_iff.mp h).1
  rw [List.getElem?_set, if_pos rfl, if_pos this]
theorem get_app {α : Type} {l m : List α} {a : Nat} {y : α} (h : l[a]? = some y) : (l ++ m)[a]? = some y := by
  rw [List.getElem?_append_left (List.getElem?_eq_some_iff.mp h).1]
  exact h
theorem get_end {α : Type} {l m : List α} (j : Nat) : (l ++ m)[l.length + j]? = m[j]? := by
  rw [List.getElem?_append_right (Nat.le_add_right _ _), Nat.add_sub_cancel_left]
/-- the whole list -/
theorem run_items : ∀ (l : List Itm) (a : Nat) (sr : Int) (m : Mc), (∀ q ∈ l, ItmOk q) → Has room (20 * (l.length + 1)) m → m.cs[a]? = some (.lat (bodyD l) [] sr) → m.stk = [.show] →
    ∃ n' m' e es, RunT fs room (20 * (l.length + 1)) (.enter (2 * (a : Int))) m n' m' ∧ shownE l = es ++ [e] ∧ n' = endN e ∧ m'.evs = m.evs ++ shownE l ∧ m'.ent.length = m.ent.length + entN l
  | [], a, sr, ⟨cs, stk, evs, ent, ser⟩, hok, h, hc, hst => by
    have h : Has room 20 ⟨cs, stk, evs, ent, ser⟩ := h
    cases (show stk = [.show] from hst)
    have hc : cs[a]? = some (.lat (bodyD []) [] sr) := hc
    obtain ⟨hal, _⟩ := List.getElem?_eq_some_iff.mp hc
    have hL : (cs.set a .hole).length = cs.length := List.length_set
    have g1 : (cs.set a .hole ++ [Cl.con 0 []])[cs.length]? = some (.con 0 []) := by
      have := get_end (l := cs.set a .hole) (m := [Cl.con 0 []]) 0
      rw [hL] at this
      exact this
    have g2 : (cs.set a .hole ++ [Cl.con 0 []])[a]? = some .hole := get_app (get_set_eq hc)
    have g3 : ((cs.set a .hole ++ [Cl.con 0 []]).set a (.on (2 * (cs.length : Int))))[cs.length]? = some (.con 0 []) := by
      rw [get_set_ne (by omega)]
      exact g1
    have h1 : Has room 18 ⟨cs.set a .hole, [.show] ++ [.upd (a : Int)], evs, ent ++ [sr], ser⟩ := by
      obtain ⟨u1, u2, u3, u4, u5⟩ := h
      dsimp only at u1 u2 u3 u4 u5
      refine ⟨by dsimp only; rw [hL]; omega, by simp <;> omega, by dsimp only; omega, by simp <;> omega, ?_⟩
      dsimp only
      rw [used_set hc]
      show used cs + ((2 : Int) - ((max 2 (1 + 0) : Nat) : Int)) + 18 ≤ room
      omega
    have h2 : Has room 15 ⟨cs.set a .hole ++ [Cl.con 0 []], [.show] ++ [.upd (a : Int)], evs, ent ++ [sr], ser⟩ := Has.cell (C := 3) (B := 15) h1 (by show 1 + 0 ≤ 3; decide) (by decide)
    have h3 : Has room 15 ⟨(cs.set a .hole ++ [Cl.con 0 []]).set a (.on (2 * (cs.length : Int))), [.show], evs, ent ++ [sr], ser⟩ := (h2.set g2 (c := .on (2 * (cs.length : Int))) rfl).stk (stk := [.show]) (by show 1 ≤ 2; decide)
    refine ⟨.fin, ⟨(cs.set a .hole ++ [Cl.con 0 []]).set a (.on (2 * (cs.length : Int))), [], evs ++ [.fin], ent ++ [sr], ser⟩, .fin, [], RunT.more (k := 4) ?_ (by show 4 ≤ 20; decide), rfl, rfl, rfl, by show (ent ++ [sr]).length = ent.length + 1; rw [List.length_append]; rfl⟩
    refine RunT.en (EnS.lat hc) h.small h.fit0 ?_
    refine RunT.ev (z := .con) (EvS.con OpsS.nil (by decide)) h1.small (h1.fit (by rw [show needE (.tup (.str Wd.con.str :: [.int 0, .tup []])) = 1 + (([] : List Dd).length : Int) from needE_con]; decide)) ?_
    have e1 : (2 : Int) * (((cs.set a .hole).length : Nat) : Int) = 2 * (cs.length : Int) := by rw [hL]
    show RunT fs room 2 (.val (2 * (((cs.set a .hole).length : Nat) : Int))) ⟨cs.set a .hole ++ [Cl.con 0 []], [.show] ++ [.upd (a : Int)], evs, ent ++ [sr], ser⟩ _ _
    rw [e1]
    refine RunT.vl (f := .upd (a : Int)) (stk := [.show]) rfl (VlS.even g1) (MtS.upd g2) (fun _ e => by cases e) h2.small h2.fit1 ?_
    exact RunT.vl (f := .show) (stk := []) rfl (VlS.even g3) (MtS.showEnd (VlS.even g3)) (fun _ e => by cases e) h3.small h3.fit1 (.stop rfl)
  | (s, i, j) :: l, a, sr, ⟨cs, stk, evs, ent, ser⟩, hok, h, hc, hst => by
    have h : Has room (20 * (l.length + 1) + 20) ⟨cs, stk, evs, ent, ser⟩ := h
    generalize hB : 20 * (l.length + 1) = B at h
    cases (show stk = [.show] from hst)
    have hc : cs[a]? = some (.lat (bodyD ((s, i, j) :: l)) [] sr) := hc
    obtain ⟨hal, _⟩ := List.getElem?_eq_some_iff.mp hc
    have hL : (cs.set a .hole).length = cs.length := List.length_set
    have okx := hok _ (List.mem_cons_self ..)
    -- the cells
    generalize hT : Cl.lat (termD s i j) [] ser = T
    generalize hR : Cl.lat (bodyD l) [] (ser + 1) = R
    generalize hP : Cl.con 1 [2 * (cs.length : Int), 2 * ((cs.length : Int) + 1)] = Pq
    have zT : T.size = 2 := by rw [← hT]; rfl
    have zR : R.size = 2 := by rw [← hR]; rfl
    have zP : Pq.size = 3 := by rw [← hP]; rfl
    have hL2 : (cs.set a .hole ++ [T, R]).length = cs.length + 2 := by rw [List.length_append, hL]; rfl
    have g0 : (cs.set a .hole)[a]? = some .hole := get_set_eq hc
    have gT : (cs.set a .hole ++ [T, R])[cs.length]? = some T := by
      have := get_end (l := cs.set a .hole) (m := [T, R]) 0
      rw [hL] at this
      exact this
    have gR : (cs.set a .hole ++ [T, R])[cs.length + 1]? = some R := by
      have := get_end (l := cs.set a .hole) (m := [T, R]) 1
      rw [hL] at this
      exact this
    have gP : (cs.set a .hole ++ [T, R] ++ [Pq])[cs.length + 2]? = some Pq := by
      have := get_end (l := cs.set a .hole ++ [T, R]) (m := [Pq]) 0
      rw [hL2] at this
      exact this
    have ga : (cs.set a .hole ++ [T, R] ++ [Pq])[a]? = some .hole := get_app (get_app g0)
    -- the states
    have h1 : Has room (B + 18) ⟨cs.set a .hole, [.show] ++ [.upd (a : Int)], evs, ent ++ [sr], ser⟩ := by
      obtain ⟨u1, u2, u3, u4, u5⟩ := h
      dsimp only at u1 u2 u3 u4 u5
      refine ⟨by dsimp only; rw [hL]; omega, by simp <;> omega, by dsimp only; omega, by simp <;> omega, ?_⟩
      dsimp only
      rw [used_set hc]
      show used cs + ((2 : Int) - ((max 2 (1 + 0) : Nat) : Int)) + ((B + 18 : Nat) : Int) ≤ room
      omega
    have h2 : Has room (B + 14) ⟨cs.set a .hole ++ [T, R], [.show] ++ [.upd (a : Int)], evs, ent ++ [sr], ser + 1 + 1⟩ := by
      obtain ⟨u1, u2, u3, u4, u5⟩ := h1
      dsimp only at u1 u2 u3 u4 u5
      refine ⟨by dsimp only; rw [hL2]; omega, by dsimp only; omega, by dsimp only; omega, by dsimp only; omega, ?_⟩
      dsimp only
      rw [used_app]
      show used (cs.set a .hole) + ((T.size : Int) + ((R.size : Int) + 0)) + ((B + 14 : Nat) : Int) ≤ room
      rw [zT, zR]
      omega
    have h3 : Has room (B + 11) ⟨cs.set a .hole ++ [T, R] ++ [Pq], [.show] ++ [.upd (a : Int)], evs, ent ++ [sr], ser + 1 + 1⟩ := Has.cell (C := 3) (B := B + 11) h2 (by rw [zP]; decide) (by decide)
    have h4 : Has room (B + 11) ⟨(cs.set a .hole ++ [T, R] ++ [Pq]).set a (.on (2 * ((cs.length + 2 : Nat) : Int))), [.show], evs, ent ++ [sr], ser + 1 + 1⟩ := (h3.set ga (c := .on (2 * ((cs.length + 2 : Nat) : Int))) rfl).stk (stk := [.show]) (by show 1 ≤ 2; decide)
    have g4P : ((cs.set a .hole ++ [T, R] ++ [Pq]).set a (.on (2 * ((cs.length + 2 : Nat) : Int))))[cs.length + 2]? = some Pq := by
      rw [get_set_ne (by omega)]
      exact gP
    have g4T : ((cs.set a .hole ++ [T, R] ++ [Pq]).set a (.on (2 * ((cs.length + 2 : Nat) : Int))))[cs.length]? = some T := by
      rw [get_set_ne (by omega)]
      exact get_app gT
    have g4R : ((cs.set a .hole ++ [T, R] ++ [Pq]).set a (.on (2 * ((cs.length + 2 : Nat) : Int))))[cs.length + 1]? = some R := by
      rw [get_set_ne (by omega)]
      exact get_app gR
    generalize hC4 : (cs.set a .hole ++ [T, R] ++ [Pq]).set a (.on (2 * ((cs.length + 2 : Nat) : Int))) = C4 at h4 g4P g4T g4R
    have h5 : Has room (B + 11) ⟨C4, [.head (2 * ((cs.length : Int) + 1))], evs, ent ++ [sr], ser + 1 + 1⟩ := h4.stk (stk := [.head _]) (Nat.le_refl 1)
    have h6 : Has room (B + 10) ⟨C4.set cs.length .hole, [.head (2 * ((cs.length : Int) + 1))] ++ [.upd (cs.length : Int)], evs, ent ++ [sr] ++ [ser], ser + 1 + 1⟩ := by
      obtain ⟨u1, u2, u3, u4, u5⟩ := h5.set g4T (c := .hole) (by rw [zT]; rfl)
      dsimp only at u1 u2 u3 u4 u5
      exact ⟨by dsimp only; omega, by simp at u2 ⊢; omega, by dsimp only; omega, by simp at u4 ⊢; omega, by dsimp only; omega⟩
    have g6T : (C4.set cs.length .hole)[cs.length]? = some .hole := get_set_eq g4T
    have g6R : (C4.set cs.length .hole)[cs.length + 1]? = some R := by
      rw [get_set_ne (by omega)]
      exact g4R
    -- up to the term
    have upto : ∀ {k : Nat} {n' : Nw} {m' : Mc}, RunT fs room k (.eval (termD s i j) []) ⟨C4.set cs.length .hole, [.head (2 * ((cs.length : Int) + 1))] ++ [.upd (cs.length : Int)], evs, ent ++ [sr] ++ [ser], ser + 1 + 1⟩ n' m' → RunT fs room (k + 6) (.enter (2 * (a : Int))) ⟨cs, [.show], evs, ent, ser⟩ n' m' := fun {k n' m'} r => by
      refine RunT.en (EnS.lat hc) h.small h.fit0 ?_
      have hws : ([] : List Int) ++ lets (cs.set a .hole).length 2 = [2 * (cs.length : Int), 2 * ((cs.length : Int) + 1)] := by
        rw [hL]
        show [2 * ((cs.length : Int) + ((0 : Nat) : Int)), 2 * ((cs.length : Int) + ((1 : Nat) : Int))] = _
        rw [show (cs.length : Int) + ((0 : Nat) : Int) = (cs.length : Int) by omega, show (cs.length : Int) + ((1 : Nat) : Int) = (cs.length : Int) + 1 by omega]
      refine RunT.ev (z := .lt) (n := .eval (.tup [.str "con", .int 1, .tup [slotD 0, slotD 1]]) [2 * (cs.length : Int), 2 * ((cs.length : Int) + 1)]) (m1 := ⟨cs.set a .hole ++ [T, R], [.show] ++ [.upd (a : Int)], evs, ent ++ [sr], ser + 1 + 1⟩) ?_ h1.small (h1.fit ?_) ?_
      · have := EvS.lt (ms := [.tup [.str "later", .tup [], termD s i j], .tup [.str "later", .tup [], bodyD l]]) (b := .tup [.str "con", .int 1, .tup [slotD 0, slotD 1]]) (ws := []) (m := ⟨cs.set a .hole, [.show] ++ [.upd (a : Int)], evs, ent ++ [sr], ser⟩) (cl := [T, R]) (s' := ser + 1 + 1) (MbsS.cons (by rw [← hT]; exact MbS.lat OpsS.nil (by decide)) (MbsS.cons (by rw [← hR]; exact MbS.lat OpsS.nil (by decide)) MbsS.nil)) (by show 2 ≤ 1000; decide) (by show 0 ≤ 90000; decide)
        have hws' : ([] : List Int) ++ lets (cs.set a .hole).length ([.tup [.str "later", .tup [], termD s i j], .tup [.str "later", .tup [], bodyD l]] : List Dd).length = [2 * (cs.length : Int), 2 * ((cs.length : Int) + 1)] := hws
        dsimp only at this
        rw [hws'] at this
        exact this
      · rw [show needE (.tup (.str Wd.lt.str :: [.tup [.tup [.str "later", .tup [], termD s i j], .tup [.str "later", .tup [], bodyD l]], .tup [.str "con", .int 1, .tup [slotD 0, slotD 1]]])) = ([.tup [.str "later", .tup [], termD s i j], .tup [.str "later", .tup [], bodyD l]].map mbSize).sum from needE_let]
        have hm : ∀ k : Dd, mbSize (.tup [.str "later", .tup [], k]) = 2 := fun k => by
          show (if ("later" : Str) = "later" then ((sizeW "later" (tl (.tup [])).length : Nat) : Int) else ((sizeW "later" (tl k).length : Nat) : Int)) = 2
          rw [if_pos rfl, sizeW_later]
          rfl
        show mbSize _ + (mbSize _ + 0) ≤ _
        rw [hm, hm]
        omega
      refine RunT.ev (z := .con) (n := .val (2 * ((cs.length + 2 : Nat) : Int))) (m1 := ⟨cs.set a .hole ++ [T, R] ++ [Pq], [.show] ++ [.upd (a : Int)], evs, ent ++ [sr], ser + 1 + 1⟩) ?_ h2.small (h2.fit (by rw [show needE (.tup (.str Wd.con.str :: [.int 1, .tup [slotD 0, slotD 1]])) = 1 + (([slotD 0, slotD 1] : List Dd).length : Int) from needE_con]; show (1 : Int) + 2 ≤ _; omega)) ?_
      · have := EvS.con (t := 1) (os := [slotD 0, slotD 1]) (ws := [2 * (cs.length : Int), 2 * ((cs.length : Int) + 1)]) (vs := [2 * (cs.length : Int), 2 * ((cs.length : Int) + 1)]) (m := ⟨cs.set a .hole ++ [T, R], [.show] ++ [.upd (a : Int)], evs, ent ++ [sr], ser + 1 + 1⟩) (OpsS.cons (OpS.slot (i := 0) rfl) (OpsS.cons (OpS.slot (i := 1) rfl) OpsS.nil)) (by show 2 ≤ 1000; decide)
        dsimp only at this
        rw [hL2, hP] at this
        exact this
      refine RunT.vl (f := .upd (a : Int)) (stk := [.show]) (n := .val (2 * ((cs.length + 2 : Nat) : Int))) (m1 := ⟨C4, [.show], evs, ent ++ [sr], ser + 1 + 1⟩) rfl (VlS.even gP) (by rw [← hC4]; exact MtS.upd ga) (fun _ e => by cases e) h3.small h3.fit1 ?_
      have g4P' : C4[cs.length + 2]? = some (.con 1 [2 * (cs.length : Int), 2 * ((cs.length : Int) + 1)]) := by rw [g4P, hP]
      refine RunT.vl (f := .show) (stk := []) (n := .enter (2 * (cs.length : Int))) (m1 := ⟨C4, [.head (2 * ((cs.length : Int) + 1))], evs, ent ++ [sr], ser + 1 + 1⟩) rfl (VlS.even g4P') (MtS.showCons (VlS.even g4P')) (fun _ e => by cases e) h4.small h4.fit1 ?_
      exact RunT.en (EnS.lat (by rw [← hT] at g4T; exact g4T)) h5.small h5.fit0 r
    rcases res_kind s i j with ⟨x, hx⟩ | ⟨f, hf⟩
    · -- it shows a number
      have key : ∀ m1 : Mc, (m1.cs = C4.set cs.length .hole ∨ ∃ t, m1.cs = C4.set cs.length .hole ++ [.con t []]) → m1.stk = [.head (2 * ((cs.length : Int) + 1))] ++ [.upd (cs.length : Int)] → m1.evs = evs → m1.ent = ent ++ [sr] ++ [ser] →
          ∃ n' m' e es, RunT fs room (B + 2) (.val (2 * x + 1)) m1 n' m' ∧ shownE l = es ++ [e] ∧ n' = endN e ∧ m'.evs = evs ++ (.shw x :: shownE l) ∧ m'.ent.length = ent.length + (2 + entN l) := by
        rintro ⟨c7, s7, e7, n7, r7⟩ hcs hs he hn
        dsimp only at hcs hs he hn
        subst hs he hn
        have g7T : c7[cs.length]? = some .hole := by
          rcases hcs with e | ⟨t, e⟩
          · rw [e]; exact g6T
          · rw [e]; exact get_app g6T
        have g7R : c7[cs.length + 1]? = some R := by
          rcases hcs with e | ⟨t, e⟩
          · rw [e]; exact g6R
          · rw [e]; exact get_app g6R
        have h7 : Has room (B + 9) ⟨c7, [.head (2 * ((cs.length : Int) + 1))] ++ [.upd (cs.length : Int)], e7, ent ++ [sr] ++ [ser], r7⟩ := by
          obtain ⟨u1, u2, u3, u4, u5⟩ := h6
          dsimp only at u1 u2 u3 u4 u5
          rcases hcs with e | ⟨t, e⟩
          · subst e
            exact ⟨by dsimp only; omega, by dsimp only; omega, by dsimp only; omega, by dsimp only; omega, by dsimp only; omega⟩
          · subst e
            refine ⟨by dsimp only; rw [List.length_append]; show _ + 1 + _ ≤ _; omega, by dsimp only; omega, by dsimp only; omega, by dsimp only; omega, ?_⟩
            dsimp only
            rw [used_app]
            show used (C4.set cs.length .hole) + (((1 + 0 : Nat) : Int) + 0) + ((B + 9 : Nat) : Int) ≤ room
            omega
        have h8 : Has room (B + 9) ⟨c7.set cs.length (.on (2 * x + 1)), [.head (2 * ((cs.length : Int) + 1))], e7, ent ++ [sr] ++ [ser], r7⟩ := (h7.set g7T (c := .on (2 * x + 1)) rfl).stk (stk := [.head _]) (by show 1 ≤ 2; decide)
        have h9 : Has room B ⟨c7.set cs.length (.on (2 * x + 1)), [.show], e7 ++ [.shw x], ent ++ [sr] ++ [ser], r7⟩ := by
          obtain ⟨u1, u2, u3, u4, u5⟩ := h8
          dsimp only at u1 u2 u3 u4 u5
          exact ⟨by dsimp only; omega, by simp at u2 ⊢; omega, by simp <;> omega, by dsimp only; omega, by dsimp only; omega⟩
        have g9R : (c7.set cs.length (.on (2 * x + 1)))[cs.length + 1]? = some (.lat (bodyD l) [] (ser + 1)) := by
          rw [get_set_ne (by omega), g7R, hR]
        subst hB
        obtain ⟨n', m', e, es, i1, i2, i3, i4, i5⟩ := run_items l (cs.length + 1) (ser + 1) ⟨c7.set cs.length (.on (2 * x + 1)), [.show], e7 ++ [.shw x], ent ++ [sr] ++ [ser], r7⟩ (fun q hq => hok q (List.mem_cons_of_mem _ hq)) h9 g9R rfl
        refine ⟨n', m', e, es, ?_, i2, i3, ?_, ?_⟩
        · refine RunT.vl (f := .upd (cs.length : Int)) (stk := [.head (2 * ((cs.length : Int) + 1))]) rfl VlS.odd (MtS.upd g7T) (fun _ e => by cases e) h7.small h7.fit1 ?_
          refine RunT.vl (f := .head (2 * ((cs.length : Int) + 1))) (stk := []) rfl VlS.odd (MtS.head VlS.odd) (fun _ e => by cases e) h8.small h8.fit1 ?_
          rw [show (cs.length : Int) + 1 = ((cs.length + 1 : Nat) : Int) by omega]
          exact i1
        · rw [i4]
          show e7 ++ [.shw x] ++ shownE l = _
          rw [List.append_assoc]
          rfl
        · rw [i5]
          show (ent ++ [sr] ++ [ser]).length + entN l = _
          simp
          omega
      have hsh : shownE ((s, i, j) :: l) = .shw x :: shownE l := by
        show (match resE s i j with | .shw x => _ | e => _) = _
        rw [hx]
      have hen : entN ((s, i, j) :: l) = 2 + entN l := by
        show (match resE s i j with | .shw _ => _ | _ => _) = _
        rw [hx]
      rw [hsh, hen]
      -- the state behind the term is some state: take the run that it gives
      have hT9 : ∃ m1 : Mc, (m1.cs = C4.set cs.length .hole ∨ ∃ t, m1.cs = C4.set cs.length .hole ++ [.con t []]) ∧ m1.stk = [.head (2 * ((cs.length : Int) + 1))] ++ [.upd (cs.length : Int)] ∧ m1.evs = evs ∧ m1.ent = ent ++ [sr] ++ [ser] ∧ ∀ {k n' m'}, RunT fs room k (.val (2 * x + 1)) m1 n' m' → RunT fs room (k + 9) (.eval (termD s i j) []) ⟨C4.set cs.length .hole, [.head (2 * ((cs.length : Int) + 1))] ++ [.upd (cs.length : Int)], evs, ent ++ [sr] ++ [ser], ser + 1 + 1⟩ n' m' := term_shw okx (h6.le (by omega)) hx
      obtain ⟨m1, k1, k2, k3, k4, k5⟩ := hT9
      obtain ⟨n', m', e, es, i1, i2, i3, i4, i5⟩ := key m1 k1 k2 k3 k4
      refine ⟨n', m', e, .shw x :: es, (upto (k5 i1)).more (by show B + 2 + 9 + 6 ≤ 20 * (l.length + 1 + 1); omega), by rw [i2]; rfl, i3, i4, i5⟩
    · have hsh : shownE ((s, i, j) :: l) = [.fault f] := by
        show (match resE s i j with | .shw x => _ | e => _) = _
        rw [hf]
      have hen : entN ((s, i, j) :: l) = 2 := by
        show (match resE s i j with | .shw _ => _ | _ => _) = _
        rw [hf]
      rw [hsh, hen]
      refine ⟨.fault f, _, .fault f, [], (upto (run_flt okx (h6.le (by omega)) hf)).more (by show 9 + 6 ≤ 20 * (l.length + 1 + 1); omega), rfl, rfl, rfl, ?_⟩
      show (ent ++ [sr] ++ [ser]).length = ent.length + 2
      simp
end
end Toy

set_option Elab.async false
set_option linter.all false
set_option maxRecDepth 100000
set_option maxHeartbeats 4000000
/-! Part Q: things as data; the law's own defs. -/
namespace L2
open PySem PySem.Spec PyProof.Rows
section
variable {X : Cx}
/-- a list and an empty one -/
def rEqLN (K : PySem.W.Frag) : R2 := fun x y H Q => ∃ a b xs, x = .ref a ∧ y = .ref b ∧ SqL K H a xs ∧ SqL K H b [] ∧ Q (.bl xs.isEmpty) H
theorem op_eqLN (hu : X.A.units < cLine) : OpR X (compareOp .Eq) (rEqLN X.K) := by
  intro pins s σ H x y v u Q I rx ry h
  obtain ⟨a, b, xs, rfl, rfl, ha, hb, q⟩ := h
  cases (show v = Value.ref a from rx)
  cases (show u = Value.ref b from ry)
  obtain ⟨us, r1, p1, _⟩ := I.list ha
  obtain ⟨ws, r2, p2, _⟩ := I.list hb
  cases r2
  cases xs with
  | nil =>
    cases r1
    exact SeqAt.eq_listAt (e := fun _ => true) p1.isList p2.isList rfl hu (fun j h1 _ => absurd h1 (by simp)) ⟨.bl true, H, I, rfl, q⟩
  | cons x xs =>
    cases r1 with
    | cons a1 b1 => exact SeqAt.eq_list_lengthsAt p1.isList p2.isList (by simp) hu ⟨.bl false, H, I, rfl, q⟩
end
end L2
namespace Toy
open PySem L2
open PyProof.Rows (envOfC)
mutual
def Dd.D : Dd → PyData
  | .non => .none
  | .bl b => .bool b
  | .int i => .int i
  | .str s => .str s
  | .tup l => .tuple (Dd.Ds l)
  | .lst l => .list (Dd.Ds l)
def Dd.Ds : List Dd → List PyData
  | [] => []
  | k :: l => k.D :: Dd.Ds l
end
mutual
theorem Dd.At.dp {K : PySem.W.Frag} {H : Hp} : ∀ {k : Dd} {v : V}, k.At F0 H v → Dp K H v k.D
  | .non, _, h => by cases (show _ = V.non from h); exact .non
  | .bl b, _, h => by cases (show _ = V.bl b from h); exact .bl b
  | .int i, _, h => by cases (show _ = V.int i from h); exact .int i
  | .str s, _, h => by obtain ⟨e, _⟩ := (show _ = V.str s ∧ _ from h); cases e; exact .str s
  | .tup l, _, ⟨a, xs, e, h, hs⟩ => by cases e; exact .tup (SqT.of h) (Dd.Ats.dp hs)
  | .lst l, _, ⟨a, xs, e, h, _⟩ => h.elim
theorem Dd.Ats.dp {K : PySem.W.Frag} {H : Hp} : ∀ {l : List Dd} {xs : List V}, Dd.Ats F0 H l xs → DpAll K H xs (Dd.Ds l)
  | [], _, h => by cases h; exact .nil
  | k :: l, _, ⟨x, ys, e, h, hs⟩ => by cases e; exact .cons (Dd.At.dp h) (Dd.Ats.dp hs)
end
mutual
def Dd.lay : Dd → Bool
  | .str s => PyData.strOk s
  | .tup l => Dd.lays l
  | .lst l => Dd.lays l
  | _ => true
def Dd.lays : List Dd → Bool
  | [] => true
  | k :: l => k.lay && Dd.lays l
end
mutual
def Dd.dep : Dd → Nat
  | .tup l => 1 + Dd.deps l
  | .lst l => 1 + Dd.deps l
  | _ => 0
def Dd.deps : List Dd → Nat
  | [] => 0
  | k :: l => max k.dep (Dd.deps l)
end
mutual
theorem Dd.canLay : ∀ k : Dd, k.lay = true → k.D.canLay0 = true
  | .non, _ => by simp [Dd.D, PyData.canLay0]
  | .bl _, _ => by simp [Dd.D, PyData.canLay0]
  | .int i, _ => by simp [Dd.D, PyData.canLay0]
  | .str s, h => by
    have h : PyData.strOk s = true := h
    simp [Dd.D, PyData.canLay0, h]
  | .tup l, h => by
    have h : Dd.lays l = true := h
    simp [Dd.D, PyData.canLay0, Dd.canLays l h]
  | .lst l, h => by
    have h : Dd.lays l = true := h
    simp [Dd.D, PyData.canLay0, Dd.canLays l h]
theorem Dd.canLays : ∀ l : List Dd, Dd.lays l = true → PyData.canLayAll0 (Dd.Ds l) = true
  | [], _ => by simp [Dd.Ds, PyData.canLayAll0]
  | k :: l, h => by
    have h : (k.lay && Dd.lays l) = true := h
    rw [Bool.and_eq_true] at h
    simp [Dd.Ds, PyData.canLayAll0, Dd.canLay k h.1, Dd.canLays l h.2]
end
mutual
theorem Dd.depth_le : ∀ k : Dd, k.D.depth ≤ k.dep
  | .non => by simp [Dd.D, PyData.depth, Dd.dep]
  | .bl _ => by simp [Dd.D, PyData.depth, Dd.dep]
  | .int i => by simp [Dd.D, PyData.depth, Dd.dep]
  | .str s => by simp [Dd.D, PyData.depth, Dd.dep]
  | .tup l => by
    have h := Dd.depths_le l
    simp [Dd.D, PyData.depth, Dd.dep]
    omega
  | .lst l => by
    have h := Dd.depths_le l
    simp [Dd.D, PyData.depth, Dd.dep]
    omega
theorem Dd.depths_le : ∀ l : List Dd, PyData.depthAll (Dd.Ds l) ≤ Dd.deps l
  | [] => by simp [Dd.Ds, PyData.depthAll, Dd.deps]
  | k :: l => by
    have h1 := Dd.depth_le k
    have h2 := Dd.depths_le l
    simp [Dd.Ds, PyData.depthAll, Dd.deps]
    omega
end
theorem Dd.shaped {k : Dd} (h : k.lay = true) (d : k.dep ≤ 60) : SeqAt.shaped k.D = true := by
  have h1 := Dd.depth_le k
  show (PyData.canLay0 k.D && decide (PyData.depth k.D ≤ 64)) = true
  rw [Bool.and_eq_true]
  exact ⟨Dd.canLay k h, decide_eq_true (by omega)⟩
theorem eqv_self {d : PyData} (h : SeqAt.shaped d = true) : PyData.eqv d d = true := SeqAt.eqv_refl d (SeqAt.canLay_of_shaped h)
theorem band {a b : Bool} (h : a = true) (k : b = true) : (a && b) = true := by rw [h, k]; rfl
theorem lays_of : ∀ {l : List Dd}, (∀ k ∈ l, k.lay = true) → Dd.lays l = true
  | [], _ => rfl
  | k :: l, h => band (h k (List.mem_cons_self ..)) (lays_of fun q hq => h q (List.mem_cons_of_mem _ hq))
theorem deps_of {n : Nat} : ∀ {l : List Dd}, (∀ k ∈ l, k.dep ≤ n) → Dd.deps l ≤ n
  | [], _ => Nat.zero_le _
  | k :: l, h => Nat.max_le.mpr ⟨h k (List.mem_cons_self ..), deps_of fun q hq => h q (List.mem_cons_of_mem _ hq)⟩
/-- such data can be compared -/
structure Cmp (n : Nat) (k : Dd) : Prop where
  lay : k.lay = true
  dep : k.dep ≤ n
theorem Cmp.mono {n m : Nat} {k : Dd} (h : Cmp n k) (hm : n ≤ m) : Cmp m k := ⟨h.lay, Nat.le_trans h.dep hm⟩
theorem cmp_tup {n : Nat} {l : List Dd} (h : ∀ k ∈ l, Cmp n k) : Cmp (n + 1) (.tup l) := ⟨lays_of fun k hk => (h k hk).lay, by
  have := deps_of fun k hk => (h k hk).dep
  show 1 + Dd.deps l ≤ n + 1
  omega⟩
theorem cmp_str {n : Nat} {s : Str} (h : PyData.strOk s = true) : Cmp n (.str s) := ⟨h, Nat.zero_le _⟩
theorem cmp_int {n : Nat} {i : Int} : Cmp n (.int i) := ⟨rfl, Nat.zero_le _⟩
theorem cmp_non {n : Nat} : Cmp n .non := ⟨rfl, Nat.zero_le _⟩
theorem cmp_cons {n : Nat} {k : Dd} {l : List Dd} (h : Cmp n k) (hs : ∀ q ∈ l, Cmp n q) : ∀ q ∈ k :: l, Cmp n q := fun q hq => by
  rcases List.mem_cons.mp hq with e | e
  · rw [e]; exact h
  · exact hs q e
theorem cmp_nil {n : Nat} : ∀ q ∈ ([] : List Dd), Cmp n q := fun q h => absurd h List.not_mem_nil


section
variable {P : Program} {w : World} {K : PySem.W.Frag} {mg : Str → Option Value} {base : Heap}
abbrev sLNum : Stmt := topS 64
theorem scLNum : FnScope ["w", "turn"] ["w"] (defScope sLNum) := ⟨rfl, rfl, rfl, by decide +kernel, rfl, by decide +kernel, by decide +kernel⟩
def spLNum : Sp := fun vs H Q _ => ∃ (p r : Addr), vs = [.ref p] ∧ DrawsAt H p r ∧ ∀ (i : Int) (H' : Hp), NumIn i → Keep p H H' → DrawsAt H' p r → Q (.int i) H'
theorem c_lnum {f : Addr} {fd : FuncData} (c_law_next : C8.Cal P w K mg base 2 "_law_next" spNext []) (F : Fun K "_law_number" "_law_number" sLNum f fd) (b : Binds K fd ["w"] []) (hm : mg "_law_number" = some (.ref f)) : C8.Cal P w K mg base 3 "_law_number" spLNum [] := by
  refine cal_of F hm b scLNum (fun vs H Q E h => ?_) (fun cdv A outer s H vs Q E hr h => ?_)
  · obtain ⟨p, r, rfl, _⟩ := h
    rfl
  obtain ⟨p, r, rfl, d0, q⟩ := h
  refine ⟨_, (pss_cons (ps_set (i := 1) scLNum.nd rfl (Or.inl rfl) (C8.pe_c c_law_next hr (by decide) rfl (pa_cons (pv 0) (pa_cons pe_int pa_nil))))
    (pss_cons (ps_if (pt_cmpR op_eq (pv 1) pe_int (nomark _))
      (pss_one (ps_ret (pe_op op_sub (C8.pe_c c_law_next hr (by decide) rfl (pa_cons (pv 0) (pa_cons pe_int pa_nil))) pe_int)))
      pss_nil)
    (pss_cons (ps_if (pt_cmpR op_eq (pv 1) pe_int (nomark _))
      (pss_one (ps_ret (pe_op op_sub (pe_op op_pow pe_int pe_int) (C8.pe_c c_law_next hr (by decide) rfl (pa_cons (pv 0) (pa_cons pe_int pa_nil))))))
      pss_nil)
    (pss_cons (ps_if (pt_cmpR op_eq (pv 1) pe_int (nomark _))
      (pss_one (ps_ret (pe_op op_sub (C8.pe_c c_law_next hr (by decide) rfl (pa_cons (pv 0) (pa_cons pe_int pa_nil))) (pe_op op_pow pe_int pe_int))))
      pss_nil)
    (pss_cons (ps_if (pt_cmpR op_eq (pv 1) pe_int (nomark _))
      (pss_one (ps_ret (pe_op op_sub (pe_op op_mul (pe_op op_add (pe_op op_mul (C8.pe_c c_law_next hr (by decide) rfl (pa_cons (pv 0) (pa_cons pe_int pa_nil))) pe_int) (C8.pe_c c_law_next hr (by decide) rfl (pa_cons (pv 0) (pa_cons pe_int pa_nil)))) pe_int) pe_int)))
      pss_nil)
    (pss_one (ps_ret (pe_op op_sub (C8.pe_c c_law_next hr (by decide) rfl (pa_cons (pv 0) (pa_cons pe_int pa_nil))) pe_int)))))))), ?_⟩
  refine ⟨_, rfl, p, r, 6, rfl, by decide, d0, fun n1 H1 n10 n11 k1 d1 => ?_⟩
  have kt : ∀ {H2 : Hp}, Keep p H1 H2 → Keep p H H2 := fun {H2} k b o hb e => k _ _ hb (k1 _ _ hb e)
  refine ⟨_, rfl, rfl, _, rfl, ?_⟩
  refine ite2 (fun c => ?_) (fun c => ?_)
  · exact ⟨_, rfl, p, r, 3, rfl, by decide, d1, fun n2 H2 n20 n21 k2 d2 => ⟨_, _, rfl, rfl, q _ _ ⟨by omega, by omega⟩ (kt k2) d2⟩⟩
  refine ⟨_, rfl, rfl, _, rfl, ?_⟩
  refine ite2 (fun c => ?_) (fun c => ?_)
  · exact ⟨_, _, rfl, rfl, by unfold CPow; decide, _, rfl, p, r, 30, rfl, by decide, d1, fun n2 H2 n20 n21 k2 d2 => ⟨_, _, rfl, rfl, q _ _ ⟨by show -1000000000000000 ≤ 1000000000000000 - n2; omega, by show 1000000000000000 - n2 ≤ 1000000000000000; omega⟩ (kt k2) d2⟩⟩
  refine ⟨_, rfl, rfl, _, rfl, ?_⟩
  refine ite2 (fun c => ?_) (fun c => ?_)
  · exact ⟨_, rfl, p, r, 30, rfl, by decide, d1, fun n2 H2 n20 n21 k2 d2 => ⟨_, _, rfl, rfl, by unfold CPow; decide, _, _, rfl, rfl, q _ _ ⟨by show -1000000000000000 ≤ n2 - 1000000000000000; omega, by show n2 - 1000000000000000 ≤ 1000000000000000; omega⟩ (kt k2) d2⟩⟩
  refine ⟨_, rfl, rfl, _, rfl, ?_⟩
  refine ite2 (fun c => ?_) (fun c => ?_)
  · refine ⟨_, rfl, p, r, 997, rfl, by decide, d1, fun n2 H2 n20 n21 k2 d2 => ⟨_, _, rfl, rfl, .inr ⟨by decide, by decide⟩, _, rfl, p, r, 997, rfl, by decide, d2, fun n3 H3 n30 n31 k3 d3 => ⟨_, _, rfl, rfl, _, _, rfl, rfl, .inr ⟨by decide, by decide⟩, _, _, rfl, rfl, ?_⟩⟩⟩
    exact q _ _ ⟨by show -1000000000000000 ≤ (n2 * 997 + n3) * 97 - 40000000; omega, by show (n2 * 997 + n3) * 97 - 40000000 ≤ 1000000000000000; omega⟩ (kt fun b o hb e => k3 _ _ hb (k2 _ _ hb e)) d3
  · exact ⟨_, rfl, p, r, 60, rfl, by decide, d1, fun n2 H2 n20 n21 k2 d2 => ⟨_, _, rfl, rfl, q _ _ ⟨by omega, by omega⟩ (kt k2) d2⟩⟩
abbrev sLTerm : Stmt := topS 65
theorem scLTerm : FnScope ["sign", "left", "right", "term", "rows"] ["sign", "left", "right"] (defScope sLTerm) := ⟨rfl, rfl, rfl, by decide +kernel, rfl, by decide +kernel, by decide +kernel⟩
def spLTerm : Sp := fun vs H Q _ => ∃ (s : Str) (i j : Int), vs = [.str s, .int i, .int j] ∧ s.length ≤ 1000 ∧ ∀ (v : V) (H' : Hp), Same H H' → (termD s i j).At F0 H' v → Q v H'
theorem c_lterm {f : Addr} {fd : FuncData} (F : Fun K "_law_term" "_law_term" sLTerm f fd) (b : Binds K fd ["sign", "left", "right"] []) (hm : mg "_law_term" = some (.ref f)) : C8.Cal P w K mg base 1 "_law_term" spLTerm [] := by
  refine cal_of F hm b scLTerm (fun vs H Q E h => ?_) (fun cdv A outer s H vs Q E hr h => ?_)
  · obtain ⟨s, i, j, rfl, _⟩ := h
    rfl
  obtain ⟨s, i, j, rfl, hs, q⟩ := h
  refine ⟨_, (pss_cons (ps_set (i := 3) scLTerm.nd rfl (Or.inl rfl) (pe_tup (pa_cons pe_str (pa_cons (pv 0) (pa_cons (pe_tup (pa_cons pe_str (pa_cons (pv 1) pa_nil))) (pa_cons (pe_tup (pa_cons pe_str (pa_cons (pv 2) pa_nil))) pa_nil))))))
    (pss_cons (ps_if (pt_cmpR op_in_seq (pv 0) (pe_lst (pa_strs (zs := ["==", "<", "<="]) rfl)) rfl)
      (pss_cons (ps_set (i := 4) scLTerm.nd rfl (Or.inl rfl) (pe_tup (pa_cons (pe_tup (pa_cons pe_int (pa_cons pe_int (pa_cons (pe_tup (pa_cons pe_str (pa_cons (pe_tup (pa_cons pe_str (pa_cons pe_int pa_nil))) pa_nil))) pa_nil)))) (pa_cons (pe_tup (pa_cons pe_int (pa_cons pe_int (pa_cons (pe_tup (pa_cons pe_str (pa_cons (pe_tup (pa_cons pe_str (pa_cons pe_int pa_nil))) pa_nil))) pa_nil)))) pa_nil))))
    (pss_one (ps_ret (pe_tup (pa_cons pe_str (pa_cons (pv 3) (pa_cons (pv 4) (pa_cons pe_non pa_nil))))))))
      pss_nil)
    (pss_one (ps_ret (pv 3))))), ?_⟩
  refine ⟨_, rfl, _, rfl, by show 2 ≤ sizeLine; decide, fun t1 ht1 => ⟨_, rfl, by show 2 ≤ sizeLine; decide, fun t2 ht2 => ⟨by show 4 ≤ sizeLine; decide, fun t3 ht3 => ?_⟩⟩⟩
  have s1 := same_new ht1 (.tup [.str "number", .int i])
  have e1 : (numD i).At F0 (upd H t1 (.tup [.str "number", .int i])) (.ref t1) := at_tup upd_same (ats_cons (at_str' (by decide +kernel)) (ats_cons rfl ats_nil))
  generalize upd H t1 (.tup [.str "number", .int i]) = H1 at s1 e1 ht2 ht3 ⊢
  have s2 := same_new ht2 (.tup [.str "number", .int j])
  have e2 : (numD j).At F0 (upd H1 t2 (.tup [.str "number", .int j])) (.ref t2) := at_tup upd_same (ats_cons (at_str' (by decide +kernel)) (ats_cons rfl ats_nil))
  have e1' := e1.keep (fr_same (B := F0) s2)
  generalize upd H1 t2 (.tup [.str "number", .int j]) = H2 at s2 e2 e1' ht3 ⊢
  have s3 := same_new ht3 (.tup [.str "prim", .str s, .ref t1, .ref t2])
  have e3 : (primD s i j).At F0 (upd H2 t3 (.tup [.str "prim", .str s, .ref t1, .ref t2])) (.ref t3) := at_tup upd_same (ats_cons (at_str' (by decide +kernel)) (ats_cons (at_str' hs) (ats_cons (e1'.keep (fr_same s3)) (ats_cons (e2.keep (fr_same s3)) ats_nil))))
  have sA := sameT s1 (sameT s2 s3)
  generalize upd H2 t3 (.tup [.str "prim", .str s, .ref t1, .ref t2]) = H3 at s3 e3 sA ⊢
  refine ⟨_, rfl, by show 3 ≤ sizeLine; decide, fun l hl => ?_⟩
  have s4 := same_new hl (.lst ([("==" : Str), "<", "<="].map V.str))
  have e4 : upd H3 l (.lst ([("==" : Str), "<", "<="].map V.str)) l = some (.lst ([("==" : Str), "<", "<="].map V.str)) := upd_same
  have e3' := e3.keep (fr_same (B := F0) s4)
  have sB := sameT sA s4
  refine ⟨l, _, rfl, .inl (SqL.of e4), rfl, flat_strs _, ?_⟩
  show ∃ k, V.bl (if false = true then !inV (.str s) ([("==" : Str), "<", "<="].map V.str) else inV (.str s) ([("==" : Str), "<", "<="].map V.str)) = V.bl k ∧ _
  rw [in_strs, show decide (s ∈ [("==" : Str), "<", "<="]) = decide (s ∈ ineqs) from rfl]
  refine ⟨_, rfl, ?_⟩
  have hterm : termD s i j = if s ∈ ineqs then .tup [.str "case", primD s i j, .tup rowsD, .non] else primD s i j := rfl
  have e3'' : (primD s i j).At F0 (upd H3 l (.lst ([("==" : Str), "<", "<="].map V.str))) (.ref t3) := e3'
  generalize upd H3 l (.lst ([("==" : Str), "<", "<="].map V.str)) = H4 at sB e3'' ⊢
  by_cases c : s ∈ ineqs
  · rw [decide_eq_true c]
    refine iteT ?_
    rw [if_pos c] at hterm
    rw [hterm] at q
    refine ⟨by show 2 ≤ sizeLine; decide, fun a1 ha1 => ⟨by show 2 ≤ sizeLine; decide, fun a2 ha2 => ⟨by show 3 ≤ sizeLine; decide, fun a3 ha3 => ⟨by show 2 ≤ sizeLine; decide, fun b1 hb1 => ⟨by show 2 ≤ sizeLine; decide, fun b2 hb2 => ⟨by show 3 ≤ sizeLine; decide, fun b3 hb3 => ⟨by show 2 ≤ sizeLine; decide, fun c1 hc1 => ?_⟩⟩⟩⟩⟩⟩⟩
    have za1 := same_new ha1 (.tup [.str "number", .int 0])
    have Ea1 : (numD 0).At F0 (upd H4 a1 (.tup [.str "number", .int 0])) (.ref a1) := at_tup upd_same (ats_cons (at_str' (by decide +kernel)) (ats_cons rfl ats_nil))
    replace e3'' := e3''.keep (fr_same (B := F0) za1)
    replace sB := sameT sB za1
    generalize upd H4 a1 (.tup [.str "number", .int 0]) = G0 at sB e3'' Ea1 ha2 ha3 hb1 hb2 hb3 hc1 ⊢
    clear za1
    have za2 := same_new ha2 (.tup [.str "give", .ref a1])
    have Ea2 : (giveD 0).At F0 (upd G0 a2 (.tup [.str "give", .ref a1])) (.ref a2) := at_tup upd_same (ats_cons (at_str' (by decide +kernel)) (ats_cons (Ea1.keep (fr_same za2)) ats_nil))
    replace e3'' := e3''.keep (fr_same (B := F0) za2)
    replace Ea1 := Ea1.keep (fr_same (B := F0) za2)
    replace sB := sameT sB za2
    generalize upd G0 a2 (.tup [.str "give", .ref a1]) = G1 at sB e3'' Ea1 Ea2 ha3 hb1 hb2 hb3 hc1 ⊢
    clear za2
    have za3 := same_new ha3 (.tup [.int 0, .int 0, .ref a2])
    have Ea3 : (Dd.tup [.int 0, .int 0, giveD 0]).At F0 (upd G1 a3 (.tup [.int 0, .int 0, .ref a2])) (.ref a3) := at_tup upd_same (ats_cons rfl (ats_cons rfl (ats_cons (Ea2.keep (fr_same za3)) ats_nil)))
    replace e3'' := e3''.keep (fr_same (B := F0) za3)
    replace Ea1 := Ea1.keep (fr_same (B := F0) za3)
    replace Ea2 := Ea2.keep (fr_same (B := F0) za3)
    replace sB := sameT sB za3
    generalize upd G1 a3 (.tup [.int 0, .int 0, .ref a2]) = G2 at sB e3'' Ea1 Ea2 Ea3 hb1 hb2 hb3 hc1 ⊢
    clear za3
    have zb1 := same_new hb1 (.tup [.str "number", .int 1])
    have Eb1 : (numD 1).At F0 (upd G2 b1 (.tup [.str "number", .int 1])) (.ref b1) := at_tup upd_same (ats_cons (at_str' (by decide +kernel)) (ats_cons rfl ats_nil))
    replace e3'' := e3''.keep (fr_same (B := F0) zb1)
    replace Ea1 := Ea1.keep (fr_same (B := F0) zb1)
    replace Ea2 := Ea2.keep (fr_same (B := F0) zb1)
    replace Ea3 := Ea3.keep (fr_same (B := F0) zb1)
    replace sB := sameT sB zb1
    generalize upd G2 b1 (.tup [.str "number", .int 1]) = G3 at sB e3'' Ea1 Ea2 Ea3 Eb1 hb2 hb3 hc1 ⊢
    clear zb1
    have zb2 := same_new hb2 (.tup [.str "give", .ref b1])
    have Eb2 : (giveD 1).At F0 (upd G3 b2 (.tup [.str "give", .ref b1])) (.ref b2) := at_tup upd_same (ats_cons (at_str' (by decide +kernel)) (ats_cons (Eb1.keep (fr_same zb2)) ats_nil))
    replace e3'' := e3''.keep (fr_same (B := F0) zb2)
    replace Ea1 := Ea1.keep (fr_same (B := F0) zb2)
    replace Ea2 := Ea2.keep (fr_same (B := F0) zb2)
    replace Ea3 := Ea3.keep (fr_same (B := F0) zb2)
    replace Eb1 := Eb1.keep (fr_same (B := F0) zb2)
    replace sB := sameT sB zb2
    generalize upd G3 b2 (.tup [.str "give", .ref b1]) = G4 at sB e3'' Ea1 Ea2 Ea3 Eb1 Eb2 hb3 hc1 ⊢
    clear zb2
    have zb3 := same_new hb3 (.tup [.int 1, .int 0, .ref b2])
    have Eb3 : (Dd.tup [.int 1, .int 0, giveD 1]).At F0 (upd G4 b3 (.tup [.int 1, .int 0, .ref b2])) (.ref b3) := at_tup upd_same (ats_cons rfl (ats_cons rfl (ats_cons (Eb2.keep (fr_same zb3)) ats_nil)))
    replace e3'' := e3''.keep (fr_same (B := F0) zb3)
    replace Ea1 := Ea1.keep (fr_same (B := F0) zb3)
    replace Ea2 := Ea2.keep (fr_same (B := F0) zb3)
    replace Ea3 := Ea3.keep (fr_same (B := F0) zb3)
    replace Eb1 := Eb1.keep (fr_same (B := F0) zb3)
    replace Eb2 := Eb2.keep (fr_same (B := F0) zb3)
    replace sB := sameT sB zb3
    generalize upd G4 b3 (.tup [.int 1, .int 0, .ref b2]) = G5 at sB e3'' Ea1 Ea2 Ea3 Eb1 Eb2 Eb3 hc1 ⊢
    clear zb3
    have zc1 := same_new hc1 (.tup [.ref a3, .ref b3])
    have Ec1 : (Dd.tup rowsD).At F0 (upd G5 c1 (.tup [.ref a3, .ref b3])) (.ref c1) := at_tup upd_same (ats_cons (Ea3.keep (fr_same zc1)) (ats_cons (Eb3.keep (fr_same zc1)) ats_nil))
    replace e3'' := e3''.keep (fr_same (B := F0) zc1)
    replace Ea1 := Ea1.keep (fr_same (B := F0) zc1)
    replace Ea2 := Ea2.keep (fr_same (B := F0) zc1)
    replace Ea3 := Ea3.keep (fr_same (B := F0) zc1)
    replace Eb1 := Eb1.keep (fr_same (B := F0) zc1)
    replace Eb2 := Eb2.keep (fr_same (B := F0) zc1)
    replace Eb3 := Eb3.keep (fr_same (B := F0) zc1)
    replace sB := sameT sB zc1
    generalize upd G5 c1 (.tup [.ref a3, .ref b3]) = G6 at sB e3'' Ea1 Ea2 Ea3 Eb1 Eb2 Eb3 Ec1  ⊢
    clear zc1
    refine ⟨_, rfl, _, rfl, by show 4 ≤ sizeLine; decide, fun u hu => ?_⟩
    have zu := same_new hu (.tup [.str "case", .ref t3, .ref c1, .non])
    exact q _ _ (sameT sB zu) (at_tup upd_same (ats_cons (at_str' (by decide +kernel)) (ats_cons (e3''.keep (fr_same zu)) (ats_cons (Ec1.keep (fr_same zu)) (ats_cons rfl ats_nil)))))
  · rw [decide_eq_false c]
    refine iteF ?_
    rw [if_neg c] at hterm
    rw [hterm] at q
    exact ⟨_, rfl, q _ _ sB e3''⟩
theorem fdiv_in {i j : Int} (hi : NumIn i) (hj : NumIn j) (h : j ≠ 0) : NumIn (i.fdiv j) := by
  obtain ⟨h0, h1⟩ := hi
  have key : ∀ (a b : Int), 0 < b → -1000000000000000 ≤ a → a ≤ 1000000000000000 → NumIn (a / b) := fun a b hb ha0 ha1 => by
    refine ⟨?_, ?_⟩
    · by_cases c : a < 0
      · have : a ≤ a / b := by
          have h3 := Int.le_ediv_of_mul_le (a := a) (b := a) hb (by
            have : a * b ≤ a * 1 := Int.mul_le_mul_of_nonpos_left (by omega) (by omega)
            omega)
          exact h3
        omega
      · have := Int.ediv_nonneg (show 0 ≤ a by omega) (show 0 ≤ b by omega)
        omega
    · by_cases c : a < 0
      · have := Int.ediv_neg_of_neg_of_pos c hb
        omega
      · have := Int.ediv_le_self b (show 0 ≤ a by omega)
        omega
  by_cases c : j < 0
  · have e : i.fdiv j = (-i) / (-j) := by
      rw [← Int.neg_fdiv_neg, Int.fdiv_eq_ediv_of_nonneg _ (by omega)]
    rw [e]
    exact key _ _ (by omega) (by omega) (by omega)
  · rw [Int.fdiv_eq_ediv_of_nonneg _ (by omega)]
    exact key _ _ (by omega) h0 h1
abbrev sLRes : Stmt := topS 66
theorem scLRes : FnScope ["sign", "left", "right", "result"] ["sign", "left", "right"] (defScope sLRes) := ⟨rfl, rfl, rfl, by decide +kernel, rfl, by decide +kernel, by decide +kernel⟩
def spLRes : Sp := fun vs H Q _ => ∃ (s : Str) (i j : Int), vs = [.str s, .int i, .int j] ∧ ItmOk (s, i, j) ∧ ∀ (v : V) (H' : Hp), Same H H' → (resE s i j).D.At F0 H' v → Q v H'
theorem c_lres {f : Addr} {fd : FuncData} (T : TxtD mg) (F : Fun K "_law_result" "_law_result" sLRes f fd) (b : Binds K fd ["sign", "left", "right"] []) (hm : mg "_law_result" = some (.ref f)) : C8.Cal P w K mg base 1 "_law_result" spLRes [] := by
  refine cal_of F hm b scLRes (fun vs H Q E h => ?_) (fun cdv A outer s H vs Q E hr h => ?_)
  · obtain ⟨s, i, j, rfl, _⟩ := h
    rfl
  obtain ⟨s, i, j, rfl, ⟨hsg, hi, hj⟩, q⟩ := h
  have hi : -1000000000000000 ≤ i ∧ i ≤ 1000000000000000 := hi
  have hj : -1000000000000000 ≤ j ∧ j ≤ 1000000000000000 := hj
  refine ⟨_, (C8.pss_cut (ps_if (PW.pt (pw_and (pt_cmpR op_in_seq (pv 0) (pe_lst (pa_cons pe_str (pa_cons pe_str pa_nil))) rfl) (pw_and1 (pt_cmpR op_eq (pv 2) pe_int (nomark _)))))
      (pss_one (ps_ret (pe_tup (pa_cons pe_str (pa_cons pe_str pa_nil)))))
      pss_nil)
    (pss_cons (ps_if (pt_cmpR op_eq (pv 0) pe_str (nomark _))
      (pss_one (ps_ret (pe_tup (pa_cons pe_str (pa_cons (pe_callTy call_int1 rfl T.zint boot_int (pa_cons (pe_cmpR op_eq (pv 1) (pv 2) (nomark _)) pa_nil)) pa_nil)))))
      pss_nil)
    (pss_cons (ps_if (pt_cmpR op_eq (pv 0) pe_str (nomark _))
      (pss_one (ps_ret (pe_tup (pa_cons pe_str (pa_cons (pe_callTy call_int1 rfl T.zint boot_int (pa_cons (pe_cmpR op_lt (pv 1) (pv 2) (nomark _)) pa_nil)) pa_nil)))))
      pss_nil)
    (pss_cons (ps_if (pt_cmpR op_eq (pv 0) pe_str (nomark _))
      (pss_one (ps_ret (pe_tup (pa_cons pe_str (pa_cons (pe_callTy call_int1 rfl T.zint boot_int (pa_cons (pe_cmpR op_le (pv 1) (pv 2) (nomark _)) pa_nil)) pa_nil)))))
      pss_nil)
    (pss_cons (ps_if (pt_cmpR op_eq (pv 0) pe_str (nomark _))
      (pss_one (ps_ret (pe_tup (pa_cons pe_str (pa_cons (pe_op op_fdivX (pv 1) (pv 2)) pa_nil)))))
      pss_nil)
    (pss_cons (ps_set (i := 3) scLRes.nd rfl (Or.inl rfl) (pe_op op_add (pv 1) (pv 2)))
    (C8.pss_cut (ps_if (pt_cmpR op_eq (pv 0) pe_str (nomark _))
      (pss_one (ps_set (i := 3) scLRes.nd rfl (Or.inl rfl) (pe_op op_sub (pv 1) (pv 2))))
      (pss_one (ps_if (pt_cmpR op_eq (pv 0) pe_str (nomark _))
      (pss_one (ps_set (i := 3) scLRes.nd rfl (Or.inl rfl) (pe_op op_mul (pv 1) (pv 2))))
      (pss_one (ps_if (pt_cmpR op_eq (pv 0) pe_str (nomark _))
      (pss_one (ps_set (i := 3) scLRes.nd rfl (Or.inl rfl) (pe_op op_sub (pv 1) (pe_op op_mul (pv 2) (pe_op op_fdivX (pv 1) (pv 2))))))
      pss_nil)))))
    (pss_cons (ps_if (PW.pt (pw_or (pt_cmpR op_gt (pv 3) (pe_op op_pow pe_int pe_int) (nomark _)) (pw_or1 (pt_cmpR op_lt (pv 3) (pe_op op_sub pe_int (pe_op op_pow pe_int pe_int)) (nomark _)))))
      (pss_one (ps_ret (pe_tup (pa_cons pe_str (pa_cons pe_str pa_nil)))))
      pss_nil)
    (pss_one (ps_ret (pe_tup (pa_cons pe_str (pa_cons (pv 3) pa_nil))))))))))))), ?_⟩
  have no : ∀ {z w' : Str} {A B : Prop}, z ≠ w' → B → if decide (V.str z = V.str w') = true then A else B := fun h hb => by rw [wne h]; exact iteF hb
  have yes : ∀ {z : Str} {A B : Prop}, A → if decide (V.str z = V.str z) = true then A else B := fun hb => by rw [wtt]; exact iteT hb
  have shw : ∀ (x : Int) (G : Hp), Same H G → resE s i j = .shw x → ∀ t, G t = none → Q (.ref t) (upd G t (.tup [.str "show", .int x])) := fun x G sG hx t ht => by
    refine q _ _ (sameT sG (same_new ht _)) ?_
    rw [hx]
    exact at_tup upd_same (ats_cons (at_str' (by decide +kernel)) (ats_cons rfl ats_nil))
  refine ⟨fun σ' G => σ' = [some (.str s), some (.int i), some (.int j), none] ∧ Same H G ∧ ¬ ((s = "div" ∨ s = "mod") ∧ j = 0), ?_, ?_⟩
  · refine ⟨_, rfl, by show 2 ≤ sizeLine; decide, fun l hl => ?_⟩
    have s4 := same_new hl (.lst [.str "div", .str "mod"])
    have e4 : upd H l (.lst [.str "div", .str "mod"]) l = some (.lst ([("div" : Str), "mod"].map V.str)) := upd_same
    refine ⟨l, _, rfl, .inl (SqL.of e4), rfl, flat_strs _, ?_⟩
    rw [in_strs, show decide (s ∈ [("div" : Str), "mod"]) = decide (s = "div" ∨ s = "mod") from decide_eq_decide.mpr (by simp)]
    refine ⟨_, rfl, ?_⟩
    generalize upd H l (.lst [.str "div", .str "mod"]) = H1 at s4 e4 ⊢
    by_cases c : s = "div" ∨ s = "mod"
    · rw [decide_eq_true c]
      refine iteT ?_
      refine ⟨_, rfl, rfl, _, rfl, ?_⟩
      show if decide (V.int j = V.int 0) = true then _ else _
      by_cases cj : j = 0
      · rw [ieq cj]
        refine iteT ?_
        refine ⟨by show 2 ≤ sizeLine; decide, fun t ht => ?_⟩
        refine q _ _ (sameT s4 (same_new ht _)) ?_
        have hn : ¬ (s = "==" ∨ s = "<" ∨ s = "<=") := by
          rcases c with rfl | rfl <;> decide +kernel
        have e : resE s i j = .fault "division by zero" := by
          unfold resE primR
          rw [if_neg hn, if_pos ⟨c, cj⟩]
          rfl
        rw [e]
        exact at_tup upd_same (ats_cons (at_str' (by decide +kernel)) (ats_cons (at_str' (by decide +kernel)) ats_nil))
      · rw [ine cj]
        exact iteF ⟨rfl, s4, fun h => cj h.2⟩
    · rw [decide_eq_false c]
      exact iteF (iteF ⟨rfl, s4, fun h => c h.1⟩)
  rintro _ G ⟨rfl, sG, hz⟩
  -- comparisons
  by_cases c1 : s = "=="
  · subst c1
    refine ⟨_, rfl, rfl, _, rfl, yes ?_⟩
    have e : resE "==" i j = .shw (if decide (V.int i = V.int j) = true then 1 else 0) := by
      unfold resE primR holdsA
      rw [if_pos (Or.inl rfl), if_pos rfl]
      by_cases h : i = j
      · rw [decide_eq_true h, ieq h]
        rfl
      · rw [decide_eq_false h, ine h]
        rfl
    exact ⟨_, rfl, _, rfl, rfl, .inr ⟨_, rfl, by show 2 ≤ sizeLine; decide, shw _ G sG e⟩⟩
  refine ⟨_, rfl, rfl, _, rfl, no c1 ?_⟩
  by_cases c2 : s = "<"
  · subst c2
    refine ⟨_, rfl, rfl, _, rfl, yes ?_⟩
    have e : resE "<" i j = .shw (if decide (i < j) = true then 1 else 0) := by
      unfold resE primR holdsA
      rw [if_pos (Or.inr (Or.inl rfl)), if_neg (by decide +kernel), if_pos rfl]
      rfl
    exact ⟨_, rfl, _, rfl, _, _, rfl, rfl, .inr ⟨_, rfl, by show 2 ≤ sizeLine; decide, shw _ G sG e⟩⟩
  refine ⟨_, rfl, rfl, _, rfl, no c2 ?_⟩
  by_cases c3 : s = "<="
  · subst c3
    refine ⟨_, rfl, rfl, _, rfl, yes ?_⟩
    have e : resE "<=" i j = .shw (if decide (i ≤ j) = true then 1 else 0) := by
      unfold resE primR holdsA
      rw [if_pos (Or.inr (Or.inr rfl)), if_neg (by decide +kernel), if_neg (by decide +kernel)]
      rfl
    exact ⟨_, rfl, _, rfl, _, _, rfl, rfl, .inr ⟨_, rfl, by show 2 ≤ sizeLine; decide, shw _ G sG e⟩⟩
  refine ⟨_, rfl, rfl, _, rfl, no c3 ?_⟩
  have hq : resE s i j = evPr (if -1000000000000000 ≤ workA s i j ∧ workA s i j ≤ 1000000000000000 then Pr.num (workA s i j) else .fault "overflow") := by
    unfold resE primR
    rw [if_neg (fun h => h.elim c1 fun h => h.elim c2 c3), if_neg hz]
  by_cases c4 : s = "div"
  · subst c4
    refine ⟨_, rfl, rfl, _, rfl, yes ?_⟩
    have hj0 : j ≠ 0 := fun e => hz ⟨.inl rfl, e⟩
    have hw : workA "div" i j = i.fdiv j := by
      unfold workA
      rw [if_neg (by decide +kernel), if_neg (by decide +kernel), if_neg (by decide +kernel), if_pos rfl]
    rw [hw, if_pos (show -1000000000000000 ≤ i.fdiv j ∧ i.fdiv j ≤ 1000000000000000 from fdiv_in hi hj hj0)] at hq
    exact ⟨_, rfl, _, rfl, _, _, rfl, rfl, ⟨hj0, log15 hj.1 hj.2⟩, by show 2 ≤ sizeLine; decide, shw _ G sG hq⟩
  refine ⟨_, rfl, rfl, _, rfl, no c4 ?_⟩
  refine ⟨_, rfl, _, rfl, _, _, rfl, rfl, ?_⟩
  refine ⟨fun σ' G' => σ' = [some (.str s), some (.int i), some (.int j), some (.int (workA s i j))] ∧ G' = G, ?_, ?_⟩
  · by_cases c5 : s = "-"
    · subst c5
      refine ⟨_, rfl, rfl, _, rfl, yes ?_⟩
      have hw : workA "-" i j = i - j := by
        unfold workA
        rw [if_neg (by decide +kernel), if_pos rfl]
      rw [hw]
      exact ⟨_, rfl, _, rfl, _, _, rfl, rfl, rfl, rfl⟩
    refine ⟨_, rfl, rfl, _, rfl, no c5 ?_⟩
    by_cases c6 : s = "*"
    · subst c6
      refine ⟨_, rfl, rfl, _, rfl, yes ?_⟩
      have hw : workA "*" i j = i * j := by
        unfold workA
        rw [if_neg (by decide +kernel), if_neg (by decide +kernel), if_pos rfl]
      rw [hw]
      have := hi.1
      have := hi.2
      exact ⟨_, rfl, _, rfl, _, _, rfl, rfl, .inl ⟨by omega, by omega⟩, rfl, rfl⟩
    refine ⟨_, rfl, rfl, _, rfl, no c6 ?_⟩
    by_cases c7 : s = "mod"
    · subst c7
      refine ⟨_, rfl, rfl, _, rfl, yes ?_⟩
      have hj0 : j ≠ 0 := fun e => hz ⟨.inr rfl, e⟩
      have hw : workA "mod" i j = i - j * i.fdiv j := by
        unfold workA
        rw [if_neg (by decide +kernel), if_neg (by decide +kernel), if_neg (by decide +kernel), if_neg (by decide +kernel)]
      rw [hw]
      have := hj.1
      have := hj.2
      exact ⟨_, rfl, _, rfl, _, rfl, _, rfl, _, _, rfl, rfl, ⟨hj0, log15 hj.1 hj.2⟩, _, _, rfl, rfl, .inl ⟨by omega, by omega⟩, _, _, rfl, rfl, rfl, rfl⟩
    refine ⟨_, rfl, rfl, _, rfl, no c7 ?_⟩
    have c8 : s = "+" := by
      have hsg : s ∈ signs := hsg
      simp only [signs, List.mem_cons, List.not_mem_nil, or_false] at hsg
      rcases hsg with h | h | h | h | h | h | h | h
      · exact h
      · exact absurd h c5
      · exact absurd h c6
      · exact absurd h c4
      · exact absurd h c7
      · exact absurd h c1
      · exact absurd h c2
      · exact absurd h c3
    subst c8
    have hw : workA "+" i j = i + j := by
      unfold workA
      rw [if_pos rfl]
    rw [hw]
    exact ⟨rfl, rfl⟩
  rintro _ G2 ⟨rfl, e⟩
  rw [e]
  clear e G2
  generalize workA s i j = x at hq ⊢
  have ovf : ¬ (-1000000000000000 ≤ x ∧ x ≤ 1000000000000000) → 2 ≤ sizeLine ∧ ∀ t, G t = none → Q (.ref t) (upd G t (.tup [.str "fault", .str "overflow"])) := fun h => ⟨by decide, fun t ht => by
    rw [if_neg h] at hq
    refine q _ _ (sameT sG (same_new ht _)) ?_
    rw [hq]
    exact at_tup upd_same (ats_cons (at_str' (by decide +kernel)) (ats_cons (at_str' (by decide +kernel)) ats_nil))⟩
  refine ⟨_, rfl, _, _, rfl, rfl, by unfold CPow; decide, _, _, rfl, rfl, _, rfl, ?_⟩
  show if decide (x > 1000000000000000) = true then _ else _
  by_cases h1 : x > 1000000000000000
  · rw [decide_eq_true h1]
    exact iteT (iteT (ovf fun h => by omega))
  rw [decide_eq_false h1]
  refine iteF ?_
  refine ⟨_, rfl, _, _, rfl, rfl, by unfold CPow; decide, _, _, rfl, rfl, _, _, rfl, rfl, _, rfl, ?_⟩
  show if decide (x < 0 - 1000000000000000) = true then _ else _
  by_cases h2 : x < 0 - 1000000000000000
  · rw [decide_eq_true h2]
    exact iteT (ovf fun h => by omega)
  rw [decide_eq_false h2]
  refine iteF ?_
  rw [if_pos ⟨by omega, by omega⟩] at hq
  exact ⟨_, rfl, by show 2 ≤ sizeLine; decide, shw _ G sG hq⟩
end
end Toy

set_option Elab.async false
set_option linter.all false
set_option maxRecDepth 100000
set_option maxHeartbeats 4000000
/-! Part R: the law. -/
namespace Toy
open PySem L2
open PyProof.Rows (envOfC)
def evsOf (l : List Itm) : List Ev := l.map (fun q => resE q.1 q.2.1 q.2.2) ++ [.fin]
def isShw : Ev → Bool
  | .shw _ => true
  | _ => false
def openE (acc : List Ev) : Bool := match acc.getLast? with
  | none => true
  | some e => isShw e
def stepE (acc : List Ev) (e : Ev) : List Ev := if openE acc = true then acc ++ [e] else acc
theorem open_snoc (acc : List Ev) (e : Ev) : openE (acc ++ [e]) = isShw e := by
  unfold openE
  rw [List.getLast?_concat]
theorem fold_shut : ∀ (l : List Ev) (acc : List Ev), openE acc = false → l.foldl stepE acc = acc
  | [], _, _ => rfl
  | e :: l, acc, h => by
    show l.foldl stepE (stepE acc e) = acc
    have : stepE acc e = acc := by unfold stepE; rw [h]; rfl
    rw [this]
    exact fold_shut l acc h
theorem fold_open : ∀ (l : List Itm) (acc : List Ev), openE acc = true → (evsOf l).foldl stepE acc = acc ++ shownE l
  | [], acc, h => by
    show stepE acc .fin = _
    unfold stepE
    rw [if_pos h]
    rfl
  | (s, i, j) :: l, acc, h => by
    show (evsOf l).foldl stepE (stepE acc (resE s i j)) = _
    have e1 : stepE acc (resE s i j) = acc ++ [resE s i j] := if_pos h
    rw [e1]
    rcases res_kind s i j with ⟨x, hx⟩ | ⟨f, hf⟩
    · have hsh : shownE ((s, i, j) :: l) = .shw x :: shownE l := by
        show (match resE s i j with | .shw x => _ | e => _) = _
        rw [hx]
      rw [hx, hsh, fold_open l _ (by rw [open_snoc]; rfl), List.append_assoc]
      rfl
    · have hsh : shownE ((s, i, j) :: l) = [.fault f] := by
        show (match resE s i j with | .shw x => _ | e => _) = _
        rw [hf]
      rw [hf, hsh, fold_shut _ _ (by rw [open_snoc]; rfl)]
theorem shown_open : ∀ (l : List Itm), ∃ es e, shownE l = es ++ [e] ∧ isShw e = false
  | [] => ⟨[], .fin, rfl, rfl⟩
  | (s, i, j) :: l => by
    rcases res_kind s i j with ⟨x, hx⟩ | ⟨f, hf⟩
    · obtain ⟨es, e, h1, h2⟩ := shown_open l
      have hsh : shownE ((s, i, j) :: l) = .shw x :: shownE l := by
        show (match resE s i j with | .shw x => _ | e => _) = _
        rw [hx]
      exact ⟨.shw x :: es, e, by rw [hsh, h1]; rfl, h2⟩
    · have hsh : shownE ((s, i, j) :: l) = [.fault f] := by
        show (match resE s i j with | .shw x => _ | e => _) = _
        rw [hf]
      exact ⟨[], .fault f, hsh, rfl⟩
/-- how many bodies are entered -/
theorem ent_shown : ∀ (l : List Itm) {es : List Ev} {e : Ev}, shownE l = es ++ [e] → (e = .fin ∧ entN l = 1 + 2 * es.length) ∨ (∃ f, e = .fault f ∧ entN l = 2 + 2 * es.length)
  | [], es, e, h => by
    have h : ([] : List Ev) ++ [Ev.fin] = es ++ [e] := h
    obtain ⟨h1, h2⟩ := List.append_inj' h rfl
    cases h2
    exact .inl ⟨rfl, by rw [← h1]; rfl⟩
  | (s, i, j) :: l, es, e, h => by
    rcases res_kind s i j with ⟨x, hx⟩ | ⟨f, hf⟩
    · have hsh : shownE ((s, i, j) :: l) = .shw x :: shownE l := by
        show (match resE s i j with | .shw x => _ | e => _) = _
        rw [hx]
      have hen : entN ((s, i, j) :: l) = 2 + entN l := by
        show (match resE s i j with | .shw _ => _ | _ => _) = _
        rw [hx]
      obtain ⟨es', e', h1, h2⟩ := shown_open l
      rw [hsh, h1] at h
      have h : (Ev.shw x :: es') ++ [e'] = es ++ [e] := h
      obtain ⟨g1, g2⟩ := List.append_inj' h rfl
      cases g2
      rcases ent_shown l h1 with ⟨a, b⟩ | ⟨f, a, b⟩
      · refine .inl ⟨a, ?_⟩
        rw [hen, b, ← g1, List.length_cons]
        omega
      · refine .inr ⟨f, a, ?_⟩
        rw [hen, b, ← g1, List.length_cons]
        omega
    · have hsh : shownE ((s, i, j) :: l) = [.fault f] := by
        show (match resE s i j with | .shw x => _ | e => _) = _
        rw [hf]
      have hen : entN ((s, i, j) :: l) = 2 := by
        show (match resE s i j with | .shw _ => _ | _ => _) = _
        rw [hf]
      rw [hsh] at h
      have h : ([] : List Ev) ++ [Ev.fault f] = es ++ [e] := h
      obtain ⟨g1, g2⟩ := List.append_inj' h rfl
      cases g2
      exact .inr ⟨f, rfl, by rw [hen, ← g1]; rfl⟩
def EvOk : Ev → Prop
  | .fault f => f = "division by zero" ∨ f = "overflow"
  | _ => True
theorem res_ok (s : Str) (i j : Int) : EvOk (resE s i j) := by
  unfold resE primR
  split
  · trivial
  · split
    · exact .inl rfl
    · split
      · trivial
      · exact .inr rfl
theorem evs_ok (l : List Itm) : ∀ e ∈ evsOf l, EvOk e := fun e he => by
  rcases List.mem_append.mp he with h | h
  · obtain ⟨q, _, rfl⟩ := List.mem_map.mp h
    exact res_ok _ _ _
  · rw [List.mem_singleton.mp h]
    trivial
theorem ev_cmp {e : Ev} (h : EvOk e) : Cmp 1 e.D := by
  cases e with
  | note i => exact cmp_tup (cmp_cons (cmp_str (by decide +kernel)) (cmp_cons cmp_int cmp_nil))
  | shw i => exact cmp_tup (cmp_cons (cmp_str (by decide +kernel)) (cmp_cons cmp_int cmp_nil))
  | fin => exact cmp_tup (cmp_cons (cmp_str (by decide +kernel)) cmp_nil)
  | fault f => exact cmp_tup (cmp_cons (cmp_str (by decide +kernel)) (cmp_cons (cmp_str (by rcases h with h | h <;> rw [h] <;> decide +kernel)) cmp_nil))
theorem shown_ok : ∀ (l : List Itm), ∀ e ∈ shownE l, EvOk e
  | [], e, h => by rw [List.mem_singleton.mp h]; trivial
  | (s, i, j) :: l, e, h => by
    have hk := res_ok s i j
    rcases res_kind s i j with ⟨x, hx⟩ | ⟨f, hf⟩
    · have hsh : shownE ((s, i, j) :: l) = .shw x :: shownE l := by
        show (match resE s i j with | .shw x => _ | e => _) = _
        rw [hx]
      rw [hsh] at h
      rcases List.mem_cons.mp h with h | h
      · rw [h]; trivial
      · exact shown_ok l e h
    · have hsh : shownE ((s, i, j) :: l) = [.fault f] := by
        show (match resE s i j with | .shw x => _ | e => _) = _
        rw [hf]
      rw [hsh] at h
      rw [List.mem_singleton.mp h, ← hf]
      exact hk
theorem ev_word {H : Hp} {e : Ev} {v : V} (h : e.D.At F0 H v) : ∃ a xs z, v = .ref a ∧ H a = some (.tup (.str z :: xs)) ∧ decide (V.str z = V.str "show") = isShw e := by
  cases e with
  | note i => obtain ⟨a, xs, rfl, ha, x, ys, rfl, ⟨rfl, _⟩, _⟩ := h; exact ⟨a, _, _, rfl, ha, show decide (V.str "note" = V.str "show") = false by decide +kernel⟩
  | shw i => obtain ⟨a, xs, rfl, ha, x, ys, rfl, ⟨rfl, _⟩, _⟩ := h; exact ⟨a, _, _, rfl, ha, show decide (V.str "show" = V.str "show") = true by decide +kernel⟩
  | fin => obtain ⟨a, xs, rfl, ha, x, ys, rfl, ⟨rfl, _⟩, _⟩ := h; exact ⟨a, _, _, rfl, ha, show decide (V.str "end" = V.str "show") = false by decide +kernel⟩
  | fault f => obtain ⟨a, xs, rfl, ha, x, ys, rfl, ⟨rfl, _⟩, _⟩ := h; exact ⟨a, _, _, rfl, ha, show decide (V.str "fault" = V.str "show") = false by decide +kernel⟩
theorem end_D {e : Ev} (h : isShw e = false) (hn : ∀ i, e ≠ .note i) : (endN e).D = e.D ∧ (endN e).run = false := by
  cases e with
  | note i => exact absurd rfl (hn i)
  | shw i => cases h
  | fin => exact ⟨rfl, rfl⟩
  | fault f => exact ⟨rfl, rfl⟩
theorem at_str {zs : List Str} {i : Int} (h0 : 0 ≤ i) (h1 : i < (zs.length : Int)) : ∃ z ∈ zs, atI (zs.map V.str) i = some (.str z) := by
  have hk : i.toNat < zs.length := by omega
  refine ⟨zs[i.toNat], List.getElem_mem _, ?_⟩
  have q : atI (zs.map V.str) ((i.toNat : Nat) : Int) = some (.str zs[i.toNat]) := atI_nat (by rw [List.getElem?_map, List.getElem?_eq_getElem hk] <;> rfl)
  rw [show ((i.toNat : Nat) : Int) = i by omega] at q
  exact q
structure TxtLw (mg : Str → Option Value) : Prop where
  zrange : mg "range" = none
  zlen : mg "len" = none
  ztuple : mg "tuple" = none
section
variable {P : Program} {w : World} {K : PySem.W.Frag} {mg : Str → Option Value} {base : Heap}
abbrev sLaw : Stmt := topS 67
theorem scLaw : FnScope ["script", "w", "body", "expected", "k", "sign", "left", "right", "shown", "event", "events", "state", "entered", "collections", "last"] ["script"] (defScope sLaw) := ⟨rfl, rfl, rfl, by decide +kernel, rfl, by decide +kernel, by decide +kernel⟩
def spLaw (K : PySem.W.Frag) : Sp := fun vs H Q _ => ∃ (a : Addr) (ns : List Int), vs = [.ref a] ∧ SqL K H a (ns.map V.int) ∧ ns.length ≤ 63 ∧ ∀ H', Q (.bl true) H'
theorem c_law {f : Addr} {fd : FuncData} (T : TxtLw mg) (c_law_draws : C8.Cal P w K mg base 1 "_law_draws" (spDraws K) []) (c_law_next : C8.Cal P w K mg base 2 "_law_next" spNext []) (c_law_number : C8.Cal P w K mg base 3 "_law_number" spLNum []) (c_law_term : C8.Cal P w K mg base 1 "_law_term" spLTerm []) (c_law_result : C8.Cal P w K mg base 1 "_law_result" spLRes []) (crun_code : C8.Cal P w K mg base 7 "run_code" (spRunCode K) []) (F : Fun K "law" "law" sLaw f fd) : FnOk P w K mg base CX0 8 f fd ["script"] (spLaw K) := by
  refine F.ok scLaw (fun vs H Q E h => ?_) (fun cdv A outer s H vs Q E hr h => ?_)
  · obtain ⟨a, ns, rfl, _⟩ := h
    rfl
  obtain ⟨a, ns, rfl, hS, h63, q⟩ := h
  have hu := hu_of hr
  have hu64 := hr.units
  refine ⟨_, (pss_cons (ps_set (i := 1) scLaw.nd rfl (Or.inl rfl) (pe_disp (pps_cons pe_str (C8.pe_c c_law_draws hr (by decide) rfl (pa_cons (pv 0) (pa_cons pe_int pa_nil))) (pps_cons pe_str pe_int pps_nil)) rfl rfl (by decide) (by decide)))
    (pss_cons (ps_set (i := 2) scLaw.nd rfl (Or.inl rfl) (pe_tup (pa_cons pe_str (pa_cons pe_int (pa_cons (pe_tup pa_nil) pa_nil)))))
    (pss_cons (ps_set (i := 3) scLaw.nd rfl (Or.inl rfl) (pe_lst (pa_cons (pe_tup (pa_cons pe_str pa_nil)) pa_nil)))
    (pss_cons (ps_for PassesOwn.never rfl (pi_range1 rfl T.zrange (pa_cons (C8.pe_c c_law_next hr (by decide) rfl (pa_cons (pv 1) (pa_cons pe_int pa_nil))) pa_nil)) (pg_name (i := 4) scLaw.nd rfl (Or.inl rfl))
      (pss_cons (ps_set (i := 5) scLaw.nd rfl (Or.inl rfl) (pe_ix ix_list (pe_lst (pa_strs (zs := ["+", "-", "*", "div", "mod", "==", "<", "<="]) rfl)) (C8.pe_c c_law_next hr (by decide) rfl (pa_cons (pv 1) (pa_cons pe_int pa_nil))) (fun _ _ => rfl)))
    (pss_cons (ps_set (i := 6) scLaw.nd rfl (Or.inl rfl) (C8.pe_c c_law_number hr (by decide) rfl (pa_cons (pv 1) pa_nil)))
    (pss_cons (ps_set (i := 7) scLaw.nd rfl (Or.inl rfl) (C8.pe_c c_law_number hr (by decide) rfl (pa_cons (pv 1) pa_nil)))
    (pss_cons (ps_set (i := 2) scLaw.nd rfl (Or.inl rfl) (pe_tup (pa_cons pe_str (pa_cons (pe_tup (pa_cons (pe_tup (pa_cons pe_str (pa_cons (pe_tup pa_nil) (pa_cons (C8.pe_c c_law_term hr (by decide) rfl (pa_cons (pv 5) (pa_cons (pv 6) (pa_cons (pv 7) pa_nil)))) pa_nil)))) (pa_cons (pe_tup (pa_cons pe_str (pa_cons (pe_tup pa_nil) (pa_cons (pv 2) pa_nil)))) pa_nil))) (pa_cons (pe_tup (pa_cons pe_str (pa_cons pe_int (pa_cons (pe_tup (pa_cons (pe_tup (pa_cons pe_str (pa_cons pe_int pa_nil))) (pa_cons (pe_tup (pa_cons pe_str (pa_cons pe_int pa_nil))) pa_nil))) pa_nil)))) pa_nil)))))
    (pss_one (ps_set (i := 3) scLaw.nd rfl (Or.inl rfl) (pe_op op_cat (pe_lst (pa_cons (C8.pe_c c_law_result hr (by decide) rfl (pa_cons (pv 5) (pa_cons (pv 6) (pa_cons (pv 7) pa_nil)))) pa_nil)) (pv 3)))))))))
    (pss_cons (ps_set (i := 8) scLaw.nd rfl (Or.inl rfl) (pe_lst pa_nil))
    (pss_cons (ps_for PassesOwn.never rfl (pi_list (pv 3)) (pg_name (i := 9) scLaw.nd rfl (Or.inl rfl))
      (pss_one (ps_if (PW.pt (pw_or (pt_cmpR (op_eqLN (Nat.lt_of_le_of_lt (Nat.le_add_right _ _) hu64)) (pv 8) (pe_lst pa_nil) (nomark _)) (pw_or1 (pt_cmpR op_eq (pe_ix ix_tup (pe_ix ix_list (pv 8) (pe_un un_neg pe_int) (fun _ _ => rfl)) pe_int (fun _ _ => rfl)) pe_str (nomark _)))))
      (pss_one (ps_expr (pe_bm PySem.F.plainAttrs_list PySem.F.slot_list_append PySem.F.type_list_append mt_append (pv 8) (pa_cons (pv 9) pa_nil))))
      pss_nil)))
    (pss_cons (ps_asg (C8.pe_c crun_code hr (by decide) rfl (pa_cons (pe_tup (pa_cons (pe_tup (pa_cons (pe_tup (pa_cons pe_int (pa_cons (pv 2) pa_nil))) pa_nil)) (pa_cons pe_int pa_nil))) (pa_cons (pe_op op_pow pe_int pe_int) (pa_cons (pe_lst pa_nil) (pa_cons pe_int pa_nil))))) (pg_tup rfl (pgs_cons (pg_name (i := 10) scLaw.nd rfl (Or.inl rfl)) (pgs_cons (pg_name (i := 11) scLaw.nd rfl (Or.inl rfl)) (pgs_cons (pg_name (i := 12) scLaw.nd rfl (Or.inl rfl)) (pgs_cons (pg_name (i := 13) scLaw.nd rfl (Or.inl rfl)) pgs_nil))))))
    (C8.pss_cut (ps_if (PW.pt (pw_or (pt_cmpR (op_neD hu64) (pv 10) (pe_callTy call_tuple_of rfl T.ztuple boot_tuple (pa_cons (pv 8) pa_nil)) (nomark _)) (pw_or (pt_cmpR (op_neD hu64) (pv 11) (pe_ix ix_list (pv 8) (pe_un un_neg pe_int) (fun _ _ => rfl)) (nomark _)) (pw_or1 (pt_cmpR op_ne (pv 13) pe_int (nomark _))))))
      (pss_one (ps_ret pe_bl))
      pss_nil)
    (pss_cons (ps_set (i := 14) scLaw.nd rfl (Or.inl rfl) (pe_op op_sub (pe_callB call_len_seq rfl T.zlen PySem.boot_len (pa_cons (pv 8) pa_nil)) pe_int))
    (pss_cons (ps_if (pt_cmpR (op_eqD hu64) (pe_ix ix_list (pv 8) (pe_un un_neg pe_int) (fun _ _ => rfl)) (pe_tup (pa_cons pe_str pa_nil)) (nomark _))
      (pss_one (ps_ret (pe_cmpR op_eq (pv 12) (pe_op op_add pe_int (pe_op op_mul pe_int (pv 14))) (nomark _))))
      pss_nil)
    (pss_one (ps_ret (pe_cmpR op_eq (pv 12) (pe_op op_add pe_int (pe_op op_mul pe_int (pv 14))) (nomark _)))))))))))))), ?_⟩
  intro p hp
  refine ⟨_, rfl, a, ns, 200, rfl, (same_new hp _).seq hS, h63, by decide, fun r row H2 hr0 s2 hrow => ?_⟩
  have npr : r ≠ p := fun e => by rw [e, upd_same] at hr0; cases hr0
  have hp2 := s2 _ _ (upd_same (H := H) (a := p) (o := .dK []))
  refine ⟨hp2, [(Sum.inr "draws", V.ref r), (Sum.inr "at", V.int 0)], rfl, (by show 2 ≤ 15; decide), ?_⟩
  have d2 : DrawsAt (upd H2 p (.dK (mergeK [] [(Sum.inr "draws", V.ref r), (Sum.inr "at", V.int 0)]))) p r := ⟨row, 0, by rw [upd_same, dk_merge]; rfl, by rw [upd_ne npr]; exact hrow⟩
  generalize upd H2 p (.dK (mergeK [] [(Sum.inr "draws", V.ref r), (Sum.inr "at", V.int 0)])) = H2 at d2 ⊢
  refine ⟨by show 0 ≤ sizeLine; decide, fun t1 ht1 => ⟨by show 3 ≤ sizeLine; decide, fun t2 ht2 => ?_⟩⟩
  have s3 := same_new ht1 (.tup [])
  have e3 : upd H2 t1 (.tup []) t1 = some (.tup []) := upd_same
  generalize upd H2 t1 (.tup []) = H3 at s3 e3 ht2 ⊢
  have s4 := same_new ht2 (.tup [.str "con", .int 0, .ref t1])
  have eB : (bodyD []).At F0 (upd H3 t2 (.tup [.str "con", .int 0, .ref t1])) (.ref t2) := at_tup upd_same (ats_cons (at_str' (by decide +kernel)) (ats_cons rfl (ats_cons (at_tup (s4 _ _ e3) ats_nil) ats_nil)))
  have d4 := d2.same (sameT s3 s4)
  generalize upd H3 t2 (.tup [.str "con", .int 0, .ref t1]) = H4 at s4 eB d4 ⊢
  refine ⟨by show 1 ≤ sizeLine; decide, fun t3 ht3 => ⟨by show 1 ≤ sizeLine; decide, fun L0 hL0 => ?_⟩⟩
  have s5 := same_new ht3 (.tup [.str "end"])
  have e5 : Ev.fin.D.At F0 (upd H4 t3 (.tup [.str "end"])) (.ref t3) := at_tup upd_same (ats_cons (at_str' (by decide +kernel)) ats_nil)
  generalize upd H4 t3 (.tup [.str "end"]) = H5 at s5 e5 hL0 ⊢
  have s6 := same_new hL0 (.lst [.ref t3])
  have e6 : upd H5 L0 (.lst [.ref t3]) L0 = some (.lst [.ref t3]) := upd_same
  have d6 := d4.same (sameT s5 s6)
  have eB6 := eB.keep (fr_same (B := F0) (sameT s5 s6))
  have e56 := e5.keep (fr_same (B := F0) s6)
  generalize upd H5 L0 (.lst [.ref t3]) = H6 at s6 e6 d6 eB6 e56 ⊢
  refine ⟨_, rfl, p, r, 15, rfl, by decide, d6, fun n1 H7 n10 n11 k7 d7 => ⟨n1, rfl, by omega, by omega, for_range (fun i σ G => ∃ (v4 v5 v6 v7 : Option V) (bv : V) (L : Addr) (xs : List V) (l : List Itm), σ = [some (.ref a), some (.ref p), some bv, some (.ref L), v4, v5, v6, v7, none, none, none, none, none, none, none] ∧ DrawsAt G p r ∧ (bodyD l).At F0 G bv ∧ G L = some (.lst xs) ∧ Dd.Ats F0 G ((evsOf l).map Ev.D) xs ∧ l.length = i ∧ ∀ q ∈ l, ItmOk q)
    ⟨_, _, _, _, _, L0, _, [], rfl, d7, eB6.keep (fr_keep k7 d6), k7 _ _ (d6.ne_list e6) e6, ats_cons (e56.keep (fr_keep k7 d6)) ats_nil, rfl, fun q hq => absurd hq List.not_mem_nil⟩ ?_ ?_⟩⟩
  · rintro i σ G hi ⟨v4, v5, v6, v7, bv, L, xs, l, rfl, dG, eb, hL, hx, hl, hok⟩
    have hi14 : i ≤ 13 := by omega
    -- a sign and two numbers
    refine ⟨by show 8 ≤ sizeLine; decide, fun lz hlz => ?_⟩
    have z1 := same_new hlz (.lst ([("+" : Str), "-", "*", "div", "mod", "==", "<", "<="].map V.str))
    have el : upd G lz (.lst ([("+" : Str), "-", "*", "div", "mod", "==", "<", "<="].map V.str)) lz = some (.lst (([("+" : Str), "-", "*", "div", "mod", "==", "<", "<="]).map V.str)) := upd_same
    have dG1 := dG.same z1
    have eb1 := eb.keep (fr_same (B := F0) z1)
    have hL1 := z1 _ _ hL
    have hx1 := hx.keep (fr_same (B := F0) z1)
    generalize upd G lz (.lst ([("+" : Str), "-", "*", "div", "mod", "==", "<", "<="].map V.str)) = G1 at el dG1 eb1 hL1 hx1 ⊢
    refine ⟨_, rfl, p, r, 8, rfl, by decide, dG1, fun n2 G2 n20 n21 k2 d2 => ?_⟩
    obtain ⟨sg, hsg, esg⟩ := at_str (zs := [("+" : Str), "-", "*", "div", "mod", "==", "<", "<="]) (i := n2) n20 (by show n2 < 8; exact n21)
    refine ⟨lz, _, _, _, rfl, rfl, SqL.of (k2 _ _ (dG1.ne_list el) el), esg, ?_⟩
    have hsg : sg ∈ signs := hsg
    refine ⟨_, rfl, p, r, rfl, d2, fun x1 G3 hx1' k3 d3 => ?_⟩
    refine ⟨_, rfl, p, r, rfl, d3, fun x2 G4 hx2' k4 d4 => ?_⟩
    have eb4 := ((eb1.keep (fr_keep (B := F0) k2 dG1)).keep (fr_keep k3 d2)).keep (fr_keep k4 d3)
    have hx4 := ((hx1.keep (fr_keep (B := F0) k2 dG1)).keep (fr_keep k3 d2)).keep (fr_keep k4 d3)
    have nL := dG1.ne_list hL1
    have hL4 := k4 _ _ nL (k3 _ _ nL (k2 _ _ nL hL1))
    have ok1 : ItmOk (sg, x1, x2) := ⟨hsg, hx1', hx2'⟩
    clear el dG1 eb1 hL1 hx1 k2 k3 k4 d2 d3
    -- the body
    refine ⟨by show 0 ≤ sizeLine; decide, fun a1 ha1 => ⟨_, rfl, _, rfl, _, rfl, sg, x1, x2, rfl, signs_len sg hsg, fun tv G5 w5 etv => ⟨by show 3 ≤ sizeLine; decide, fun a2 ha2 => ⟨by show 0 ≤ sizeLine; decide, fun a3 ha3 => ⟨_, rfl, by show 3 ≤ sizeLine; decide, fun a4 ha4 => ⟨by show 2 ≤ sizeLine; decide, fun a5 ha5 => ?_⟩⟩⟩⟩⟩⟩
    have y1 := sameT (same_new ha1 (.tup [])) w5
    have ea1 : G5 a1 = some (.tup []) := w5 _ _ upd_same
    replace d4 := d4.same y1
    replace eb4 := eb4.keep (fr_same (B := F0) y1)
    replace hx4 := hx4.keep (fr_same (B := F0) y1)
    replace hL4 := y1 _ _ hL4
    have Ea1 : (Dd.tup []).At F0 G5 (.ref a1) := at_tup ea1 ats_nil
    clear ea1 y1 w5
    have za2 := same_new ha2 (.tup [.str "later", .ref a1, tv])
    have Ea2 : (Dd.tup [.str "later", .tup [], termD sg x1 x2]).At F0 (upd G5 a2 (.tup [.str "later", .ref a1, tv])) (.ref a2) := at_tup upd_same (ats_cons (at_str' (by decide +kernel)) (ats_cons (Ea1.keep (fr_same za2)) (ats_cons (etv.keep (fr_same za2)) ats_nil)))
    replace etv := etv.keep (fr_same (B := F0) za2)
    replace eb4 := eb4.keep (fr_same (B := F0) za2)
    replace hx4 := hx4.keep (fr_same (B := F0) za2)
    replace Ea1 := Ea1.keep (fr_same (B := F0) za2)
    replace d4 := d4.same za2
    replace hL4 := za2 _ _ hL4
    generalize upd G5 a2 (.tup [.str "later", .ref a1, tv]) = G5_a2 at d4 hL4 etv eb4 hx4 Ea1 Ea2 ha3 ha4 ha5 ⊢
    clear za2
    have za3 := same_new ha3 (.tup [])
    have Ea3 : (Dd.tup []).At F0 (upd G5_a2 a3 (.tup [])) (.ref a3) := at_tup upd_same ats_nil
    replace etv := etv.keep (fr_same (B := F0) za3)
    replace eb4 := eb4.keep (fr_same (B := F0) za3)
    replace hx4 := hx4.keep (fr_same (B := F0) za3)
    replace Ea1 := Ea1.keep (fr_same (B := F0) za3)
    replace Ea2 := Ea2.keep (fr_same (B := F0) za3)
    replace d4 := d4.same za3
    replace hL4 := za3 _ _ hL4
    generalize upd G5_a2 a3 (.tup []) = G5_a3 at d4 hL4 etv eb4 hx4 Ea1 Ea2 Ea3 ha4 ha5 ⊢
    clear za3
    have za4 := same_new ha4 (.tup [.str "later", .ref a3, bv])
    have Ea4 : (Dd.tup [.str "later", .tup [], bodyD l]).At F0 (upd G5_a3 a4 (.tup [.str "later", .ref a3, bv])) (.ref a4) := at_tup upd_same (ats_cons (at_str' (by decide +kernel)) (ats_cons (Ea3.keep (fr_same za4)) (ats_cons (eb4.keep (fr_same za4)) ats_nil)))
    replace etv := etv.keep (fr_same (B := F0) za4)
    replace eb4 := eb4.keep (fr_same (B := F0) za4)
    replace hx4 := hx4.keep (fr_same (B := F0) za4)
    replace Ea1 := Ea1.keep (fr_same (B := F0) za4)
    replace Ea2 := Ea2.keep (fr_same (B := F0) za4)
    replace Ea3 := Ea3.keep (fr_same (B := F0) za4)
    replace d4 := d4.same za4
    replace hL4 := za4 _ _ hL4
    generalize upd G5_a3 a4 (.tup [.str "later", .ref a3, bv]) = G5_a4 at d4 hL4 etv eb4 hx4 Ea1 Ea2 Ea3 Ea4 ha5 ⊢
    clear za4
    have za5 := same_new ha5 (.tup [.ref a2, .ref a4])
    have Ea5 : (Dd.tup [.tup [.str "later", .tup [], termD sg x1 x2], .tup [.str "later", .tup [], bodyD l]]).At F0 (upd G5_a4 a5 (.tup [.ref a2, .ref a4])) (.ref a5) := at_tup upd_same (ats_cons (Ea2.keep (fr_same za5)) (ats_cons (Ea4.keep (fr_same za5)) ats_nil))
    replace etv := etv.keep (fr_same (B := F0) za5)
    replace eb4 := eb4.keep (fr_same (B := F0) za5)
    replace hx4 := hx4.keep (fr_same (B := F0) za5)
    replace Ea1 := Ea1.keep (fr_same (B := F0) za5)
    replace Ea2 := Ea2.keep (fr_same (B := F0) za5)
    replace Ea3 := Ea3.keep (fr_same (B := F0) za5)
    replace Ea4 := Ea4.keep (fr_same (B := F0) za5)
    replace d4 := d4.same za5
    replace hL4 := za5 _ _ hL4
    generalize upd G5_a4 a5 (.tup [.ref a2, .ref a4]) = G5_a5 at d4 hL4 etv eb4 hx4 Ea1 Ea2 Ea3 Ea4 Ea5  ⊢
    clear za5
    refine ⟨by show 2 ≤ sizeLine; decide, fun a6 ha6 => ⟨by show 2 ≤ sizeLine; decide, fun a7 ha7 => ⟨by show 2 ≤ sizeLine; decide, fun a8 ha8 => ⟨by show 3 ≤ sizeLine; decide, fun a9 ha9 => ⟨by show 3 ≤ sizeLine; decide, fun b1 hb1 => ?_⟩⟩⟩⟩⟩
    have za6 := same_new ha6 (.tup [.str "slot", .int 0])
    have Ea6 : (slotD 0).At F0 (upd G5_a5 a6 (.tup [.str "slot", .int 0])) (.ref a6) := at_tup upd_same (ats_cons (at_str' (by decide +kernel)) (ats_cons rfl ats_nil))
    replace hx4 := hx4.keep (fr_same (B := F0) za6)
    replace Ea5 := Ea5.keep (fr_same (B := F0) za6)
    replace d4 := d4.same za6
    replace hL4 := za6 _ _ hL4
    generalize upd G5_a5 a6 (.tup [.str "slot", .int 0]) = G5_a6 at d4 hL4 hx4 Ea5 Ea6 ha7 ha8 ha9 hb1 ⊢
    clear za6
    have za7 := same_new ha7 (.tup [.str "slot", .int 1])
    have Ea7 : (slotD 1).At F0 (upd G5_a6 a7 (.tup [.str "slot", .int 1])) (.ref a7) := at_tup upd_same (ats_cons (at_str' (by decide +kernel)) (ats_cons rfl ats_nil))
    replace hx4 := hx4.keep (fr_same (B := F0) za7)
    replace Ea5 := Ea5.keep (fr_same (B := F0) za7)
    replace Ea6 := Ea6.keep (fr_same (B := F0) za7)
    replace d4 := d4.same za7
    replace hL4 := za7 _ _ hL4
    generalize upd G5_a6 a7 (.tup [.str "slot", .int 1]) = G5_a7 at d4 hL4 hx4 Ea5 Ea6 Ea7 ha8 ha9 hb1 ⊢
    clear za7
    have za8 := same_new ha8 (.tup [.ref a6, .ref a7])
    have Ea8 : (Dd.tup [slotD 0, slotD 1]).At F0 (upd G5_a7 a8 (.tup [.ref a6, .ref a7])) (.ref a8) := at_tup upd_same (ats_cons (Ea6.keep (fr_same za8)) (ats_cons (Ea7.keep (fr_same za8)) ats_nil))
    replace hx4 := hx4.keep (fr_same (B := F0) za8)
    replace Ea5 := Ea5.keep (fr_same (B := F0) za8)
    replace Ea6 := Ea6.keep (fr_same (B := F0) za8)
    replace Ea7 := Ea7.keep (fr_same (B := F0) za8)
    replace d4 := d4.same za8
    replace hL4 := za8 _ _ hL4
    generalize upd G5_a7 a8 (.tup [.ref a6, .ref a7]) = G5_a8 at d4 hL4 hx4 Ea5 Ea6 Ea7 Ea8 ha9 hb1 ⊢
    clear za8
    have za9 := same_new ha9 (.tup [.str "con", .int 1, .ref a8])
    have Ea9 : (Dd.tup [.str "con", .int 1, .tup [slotD 0, slotD 1]]).At F0 (upd G5_a8 a9 (.tup [.str "con", .int 1, .ref a8])) (.ref a9) := at_tup upd_same (ats_cons (at_str' (by decide +kernel)) (ats_cons rfl (ats_cons (Ea8.keep (fr_same za9)) ats_nil)))
    replace hx4 := hx4.keep (fr_same (B := F0) za9)
    replace Ea5 := Ea5.keep (fr_same (B := F0) za9)
    replace Ea6 := Ea6.keep (fr_same (B := F0) za9)
    replace Ea7 := Ea7.keep (fr_same (B := F0) za9)
    replace Ea8 := Ea8.keep (fr_same (B := F0) za9)
    replace d4 := d4.same za9
    replace hL4 := za9 _ _ hL4
    generalize upd G5_a8 a9 (.tup [.str "con", .int 1, .ref a8]) = G5_a9 at d4 hL4 hx4 Ea5 Ea6 Ea7 Ea8 Ea9 hb1 ⊢
    clear za9
    have zb1 := same_new hb1 (.tup [.str "let", .ref a5, .ref a9])
    have Eb1 : (bodyD ((sg, x1, x2) :: l)).At F0 (upd G5_a9 b1 (.tup [.str "let", .ref a5, .ref a9])) (.ref b1) := at_tup upd_same (ats_cons (at_str' (by decide +kernel)) (ats_cons (Ea5.keep (fr_same zb1)) (ats_cons (Ea9.keep (fr_same zb1)) ats_nil)))
    replace hx4 := hx4.keep (fr_same (B := F0) zb1)
    replace Ea5 := Ea5.keep (fr_same (B := F0) zb1)
    replace Ea6 := Ea6.keep (fr_same (B := F0) zb1)
    replace Ea7 := Ea7.keep (fr_same (B := F0) zb1)
    replace Ea8 := Ea8.keep (fr_same (B := F0) zb1)
    replace Ea9 := Ea9.keep (fr_same (B := F0) zb1)
    replace d4 := d4.same zb1
    replace hL4 := zb1 _ _ hL4
    generalize upd G5_a9 b1 (.tup [.str "let", .ref a5, .ref a9]) = G5_b1 at d4 hL4 hx4 Ea5 Ea6 Ea7 Ea8 Ea9 Eb1  ⊢
    clear zb1
    -- what is due
    refine ⟨_, rfl, _, rfl, _, rfl, sg, x1, x2, rfl, ok1, fun rv G6 w6 erv => ⟨by show 1 ≤ sizeLine; decide, fun l1 hl1 => ?_⟩⟩
    have z6 := same_new hl1 (.lst [rv])
    have w7 := sameT w6 z6
    have el1 : upd G6 l1 (.lst [rv]) l1 = some (.lst [rv]) := upd_same
    replace d4 := d4.same w7
    have Eb := Eb1.keep (fr_same (B := F0) w7)
    replace hx4 := hx4.keep (fr_same (B := F0) w7)
    replace hL4 := w7 _ _ hL4
    have er7 := erv.keep (fr_same (B := F0) z6)
    have hxl := ats_len hx4
    rw [List.length_map] at hxl
    have hel : (evsOf l).length = l.length + 1 := by
      show (l.map _ ++ [Ev.fin]).length = _
      rw [List.length_append, List.length_map]
      rfl
    generalize upd G6 l1 (.lst [rv]) = G7 at el1 d4 Eb hx4 hL4 er7 ⊢
    refine ⟨_, rfl, l1, L, [rv], xs, rfl, rfl, el1, hL4, by show 1 + xs.length ≤ sizeLine; exact Nat.le_of_lt (szl (by omega)), fun l2 hl2 => ?_⟩
    have z8 := same_new hl2 (.lst ([rv] ++ xs))
    refine ⟨_, _, _, _, _, l2, _, (sg, x1, x2) :: l, rfl, d4.same z8, Eb.keep (fr_same z8), upd_same, ats_cons (er7.keep (fr_same z8)) (hx4.keep (fr_same z8)), by rw [List.length_cons, hl], fun q0 hq => ?_⟩
    rcases List.mem_cons.mp hq with e | e
    · rw [e]; exact ok1
    · exact hok q0 e
  rintro σ G ⟨v4, v5, v6, v7, bv, L, xs, l, rfl, dG, eb, hL, hx, hl, hok⟩
  have hll : l.length ≤ 14 := by omega
  -- what is shown
  refine ⟨by show 0 ≤ sizeLine; decide, fun S hS0 => ?_⟩
  have s8 := same_new hS0 (.lst [])
  have e8 : upd G S (.lst []) S = some (.lst []) := upd_same
  have eb8 := eb.keep (fr_same (B := F0) s8)
  have hx8 := hx.keep (fr_same (B := F0) s8)
  have hL8 := s8 _ _ hL
  have nSL : S ≠ L := fun z => by rw [z, hL] at hS0; cases hS0
  have hxl := ats_len hx
  rw [List.length_map] at hxl
  have hel : (evsOf l).length = l.length + 1 := by
    show (l.map _ ++ [Ev.fin]).length = _
    rw [List.length_append, List.length_map]
    rfl
  generalize upd G S (.lst []) = G8 at s8 e8 eb8 hx8 hL8 ⊢
  refine ⟨_, rfl, L, rfl, ⟨xs, SqL.of hL8⟩, for_list (a := L) (xs := xs) (fun i σ G => ∃ (v9 : Option V) (ys : List V), σ = [some (.ref a), some (.ref p), some bv, some (.ref L), v4, v5, v6, v7, some (.ref S), v9, none, none, none, none, none] ∧ (∀ b o, b ≠ S → G8 b = some o → G b = some o) ∧ G S = some (.lst ys) ∧ Dd.Ats F0 G ((((evsOf l).take i).foldl stepE []).map Ev.D) ys ∧ ys.length ≤ i)
    ⟨_, [], rfl, fun _ _ _ e => e, e8, rfl, Nat.le_refl _⟩ (fun i σ G _ ⟨_, _, _, k, _⟩ => SqL.of (k _ _ nSL.symm hL8)) ?_ ?_⟩
  · rintro i x σ G9 hxi ⟨v9, ys, rfl, k9, hS9, hy9, hyl⟩
    obtain ⟨ed, hed, hxa⟩ := ats_get hx8 hxi
    rw [List.getElem?_map] at hed
    obtain ⟨e0, he0, rfl⟩ : ∃ e0, (evsOf l)[i]? = some e0 ∧ e0.D = ed := by
      cases h : (evsOf l)[i]? with
      | none => rw [h] at hed; cases hed
      | some e0 => rw [h] at hed; exact ⟨e0, rfl, Option.some.inj hed⟩
    have hil : i < l.length + 1 := by have := (List.getElem?_eq_some_iff.mp he0).1; omega
    have htk : (((evsOf l).take (i + 1)).foldl stepE []) = stepE (((evsOf l).take i).foldl stepE []) e0 := by
      rw [take_snoc he0, List.foldl_append]
      rfl
    rw [htk]
    generalize ((evsOf l).take i).foldl stepE [] = acc at hy9 ⊢
    have frS : ∀ {G' : Hp} {o : HO}, (∀ b u, b ≠ S → G8 b = some u → G' b = some u) → Fr F0 G8 G' := fun {G' o} k => ⟨fun b us e => k _ _ (fun z => by rw [z, e8] at e; cases e) e, fun _ _ z _ => z.elim⟩
    have hx9 := hxa.keep (frS (o := .lst []) k9)
    refine ⟨_, rfl, by show 0 ≤ sizeLine; decide, fun l0 hl0 => ?_⟩
    have sl := same_new hl0 (.lst [])
    have hS10 := sl _ _ hS9
    have el0 : upd G9 l0 (.lst []) l0 = some (.lst []) := upd_same
    have k10 : ∀ b o, b ≠ S → G8 b = some o → upd G9 l0 (.lst []) b = some o := fun b o n e => sl _ _ (k9 _ _ n e)
    have hx10 := hx9.keep (fr_same (B := F0) sl)
    have hy10 := hy9.keep (fr_same (B := F0) sl)
    generalize upd G9 l0 (.lst []) = G10 at hS10 el0 k10 hx10 hy10 ⊢
    refine ⟨S, l0, ys, rfl, rfl, SqL.of hS10, SqL.of el0, _, rfl, ?_⟩
    -- one more is shown
    have more : ∃ (v9 : Option V) (zs : List V), [some (.ref a), some (.ref p), some bv, some (.ref L), v4, v5, v6, v7, some (.ref S), some x, none, none, none, none, none] = [some (.ref a), some (.ref p), some bv, some (.ref L), v4, v5, v6, v7, some (.ref S), v9, none, none, none, none, none] ∧ (∀ b o, b ≠ S → G8 b = some o → upd G10 S (.lst (ys ++ [x])) b = some o) ∧ upd G10 S (.lst (ys ++ [x])) S = some (.lst zs) ∧ Dd.Ats F0 (upd G10 S (.lst (ys ++ [x]))) ((acc ++ [e0]).map Ev.D) zs ∧ zs.length ≤ i + 1 := by
      have fU : Fr F0 G10 (upd G10 S (.lst (ys ++ [x]))) := fr_upd hS10 fun _ z => by cases z
      refine ⟨_, ys ++ [x], rfl, fun b o n e => by rw [upd_ne n]; exact k10 _ _ n e, upd_same, ?_, by rw [List.length_append]; show ys.length + 1 ≤ i + 1; omega⟩
      rw [List.map_append]
      exact ats_app (hy10.keep fU) (ats_one (hx10.keep fU))
    have hyz : ys.length < sizeLine := szl (by omega)
    have hlen := ats_len hy9
    rw [List.length_map] at hlen
    rcases List.eq_nil_or_concat acc with rfl | ⟨acc', e1, rfl⟩
    · have hy0 : ys = [] := List.length_eq_zero_iff.mp hlen
      subst hy0
      refine iteT (iteT ?_)
      rw [show stepE [] e0 = [] ++ [e0] from rfl]
      exact ⟨_, rfl, .inl ⟨rfl, _, SqL.of hS10⟩, _, rfl, S, _, _, rfl, rfl, hS10, hyz, more⟩
    · rw [List.concat_eq_append] at hy9 hy10 more hlen ⊢
      have hst : stepE (acc' ++ [e1]) e0 = if isShw e1 = true then acc' ++ [e1] ++ [e0] else acc' ++ [e1] := by
        unfold stepE
        rw [open_snoc]
      rw [hst]
      have hy11 := hy10
      rw [List.map_append] at hy11
      obtain ⟨ys', y, rfl, _, hya⟩ := ats_snoc hy11
      rw [show (ys' ++ [y]).isEmpty = false by cases ys' <;> rfl]
      refine iteF ?_
      obtain ⟨ea, exs, z, rfl, hea, hez⟩ := ev_word hya
      refine ⟨_, rfl, _, rfl, S, _, -1, _, rfl, rfl, SqL.of hS10, atL _ _, ea, _, 0, _, rfl, rfl, SqT.of hea, at0 _ _, rfl, _, rfl, ?_⟩
      show if decide (V.str z = V.str "show") = true then _ else _
      rw [hez]
      cases h : isShw e1 with
      | true =>
        refine iteT ?_
        rw [if_pos rfl]
        exact ⟨_, rfl, .inl ⟨rfl, _, SqL.of hS10⟩, _, rfl, S, _, _, rfl, rfl, hS10, hyz, more⟩
      | false =>
        refine iteF ?_
        rw [if_neg (by decide)]
        exact ⟨_, _, rfl, k10, hS10, hy10, by omega⟩
  rintro σ G9 ⟨v9, ys, rfl, k9, hS9, hy9, hyl⟩
  rw [show (evsOf l).take xs.length = evsOf l from List.take_of_length_le (by omega), fold_open l [] rfl, List.nil_append] at hy9
  have frS : Fr F0 G8 G9 := ⟨fun b us e => k9 _ _ (fun z => by rw [z, e8] at e; cases e) e, fun _ _ z _ => z.elim⟩
  have eb9 := eb8.keep frS
  -- the code is run
  refine ⟨_, rfl, by show 2 ≤ sizeLine; decide, fun f1 hf1 => ⟨by show 1 ≤ sizeLine; decide, fun f2 hf2 => ⟨by show 2 ≤ sizeLine; decide, fun f3 hf3 => ?_⟩⟩⟩
  have u1 := same_new hf1 (.tup [.int 0, bv])
  have ef1 : (fnD (0, bodyD l)).At F0 (upd G9 f1 (.tup [.int 0, bv])) (.ref f1) := at_tup upd_same (ats_cons rfl (ats_cons (eb9.keep (fr_same u1)) ats_nil))
  generalize upd G9 f1 (.tup [.int 0, bv]) = K1 at u1 ef1 hf2 hf3 ⊢
  have u2 := same_new hf2 (.tup [.ref f1])
  have ef2 : upd K1 f2 (.tup [.ref f1]) f2 = some (.tup [.ref f1]) := upd_same
  have ef1' := ef1.keep (fr_same (B := F0) u2)
  generalize upd K1 f2 (.tup [.ref f1]) = K2 at u2 ef2 ef1' hf3 ⊢
  have u3 := same_new hf3 (.tup [.ref f2, .int 0])
  have ef3 : upd K2 f3 (.tup [.ref f2, .int 0]) f3 = some (.tup [.ref f2, .int 0]) := upd_same
  have ef2' := u3 _ _ ef2
  have ef1'' := ef1'.keep (fr_same (B := F0) u3)
  have u123 := sameT u1 (sameT u2 u3)
  generalize upd K2 f3 (.tup [.ref f2, .int 0]) = K3 at u3 ef3 ef2' ef1'' u123 ⊢
  refine ⟨_, _, rfl, rfl, by unfold CPow; decide, by show 0 ≤ sizeLine; decide, fun la hla => ?_⟩
  have u4 := same_new hla (.lst [])
  have ela : upd K3 la (.lst []) la = some (.lst []) := upd_same
  have uA := sameT u123 u4
  have hhas : Has 10000 (20 * (l.length + 1)) (startM [(0, bodyD l)]) := ⟨by show 1 + 20 * (l.length + 1) ≤ 90000; omega, by show 1 + 20 * (l.length + 1) ≤ 90000; omega, by show 0 + 20 * (l.length + 1) ≤ 90000; omega, by show 0 + 20 * (l.length + 1) ≤ 90000; omega, by show ((2 : Int) + 0) + ((20 * (l.length + 1) : Nat) : Int) ≤ 10000; omega⟩
  obtain ⟨n', m', e, es, r1, r2, r3, r4, r5⟩ := run_items (fs := [(0, bodyD l)]) (room := 10000) l 0 0 (startM [(0, bodyD l)]) hok hhas rfl rfl
  refine ⟨f2, f3, la, [.ref f1], 0, 10000, 4000, [(0, bodyD l)], n', m', rfl, u4 _ _ ef3, u4 _ _ ef2', ats_one (ef1''.keep (fr_same u4)), (show 1 ≤ 1000 by decide), ela, by decide, (r1.more (by omega)).to, fun v H' s' hrep => ?_⟩
  obtain ⟨t, te, sv, ts, rfl, ht, hte, hts, hsv⟩ := hrep
  have r4 : m'.evs = shownE l := r4
  have r5 : m'.ent.length = 0 + entN l := r5
  rw [r4] at hts
  rw [r5, Nat.zero_add] at ht
  have sB := sameT uA s'
  have hS11 := sB _ _ hS9
  have hy11 := hy9.keep (fr_same (B := F0) sB)
  obtain ⟨es', e', q1, q2⟩ := shown_open l
  have hee : e = e' ∧ es = es' := by
    rw [q1] at r2
    obtain ⟨g1, g2⟩ := List.append_inj' r2 rfl
    cases g2
    exact ⟨rfl, g1.symm⟩
  obtain ⟨rfl, rfl⟩ := hee
  have hent := ent_shown l r2
  have hsvD : e.D.At F0 H' sv := by
    rcases hent with ⟨rfl, _⟩ | ⟨f, rfl, _⟩
    · rw [r3] at hsv
      exact hsv
    · rw [r3] at hsv
      exact hsv
  refine ⟨t, _, rfl, SqT.of ht, rfl, _, _, rfl, _, _, rfl, _, _, rfl, _, _, rfl, rfl, ?_⟩
  -- the report is the one that is due
  have hcmp : Cmp 2 (.tup ((shownE l).map Ev.D)) := cmp_tup fun k hk => by
    obtain ⟨e0, he0, rfl⟩ := List.mem_map.mp hk
    exact ev_cmp (shown_ok l e0 he0)
  have hcme : Cmp 1 e.D := ev_cmp (shown_ok l e (by rw [r2]; exact List.mem_append_right _ (List.mem_singleton.mpr rfl)))
  have hy12 := hy11
  rw [r2, List.map_append] at hy12
  obtain ⟨ys', y, rfl, hys', hya⟩ := ats_snoc hy12
  have hysl := ats_len hys'
  rw [List.length_map] at hysl
  refine ⟨fun σ' G' => σ' = [some (.ref a), some (.ref p), some bv, some (.ref L), v4, v5, v6, v7, some (.ref S), v9, some (.ref te), some sv, some (.int (entN l : Int)), some (.int 0), none] ∧ Same H' G', ?_, ?_⟩
  · refine ⟨_, rfl, _, rfl, S, _, rfl, .inl ⟨SqL.of hS11, fun tu htu => ?_⟩⟩
    have w1 := same_new htu (.tup (ys' ++ [y]))
    have a1 : (Dd.tup ((shownE l).map Ev.D)).At F0 (upd H' tu (.tup (ys' ++ [y]))) (.ref te) := at_tup (w1 _ _ hte) (hts.keep (fr_same w1))
    have a2 : (Dd.tup ((shownE l).map Ev.D)).At F0 (upd H' tu (.tup (ys' ++ [y]))) (.ref tu) := at_tup upd_same (hy11.keep (fr_same w1))
    have w2 := w1 _ _ hS11
    generalize upd H' tu (.tup (ys' ++ [y])) = K4 at w1 a1 a2 w2 ⊢
    refine ⟨_, _, a1.dp, a2.dp, Dd.shaped hcmp.lay (Nat.le_trans hcmp.dep (by decide)), Dd.shaped hcmp.lay (Nat.le_trans hcmp.dep (by decide)), _, rfl, ?_⟩
    rw [eqv_self (Dd.shaped hcmp.lay (Nat.le_trans hcmp.dep (by decide)))]
    refine iteF ?_
    refine ⟨_, rfl, _, rfl, _, rfl, S, _, -1, _, rfl, rfl, SqL.of w2, atL _ _, _, _, (hsvD.keep (fr_same w1)).dp, (hya.keep (fr_same w1)).dp, Dd.shaped hcme.lay (Nat.le_trans hcme.dep (by decide)), Dd.shaped hcme.lay (Nat.le_trans hcme.dep (by decide)), _, rfl, ?_⟩
    rw [eqv_self (Dd.shaped hcme.lay (Nat.le_trans hcme.dep (by decide)))]
    refine iteF ?_
    refine ⟨_, rfl, rfl, _, rfl, ?_⟩
    refine iteF ?_
    exact ⟨rfl, w1⟩
  rintro _ K5 ⟨rfl, w3⟩
  have hS12 := w3 _ _ hS11
  refine ⟨_, rfl, S, _, rfl, .inl (SqL.of hS12), _, _, rfl, rfl, ?_⟩
  refine ⟨_, rfl, _, rfl, S, _, -1, _, rfl, rfl, SqL.of hS12, atL _ _, by show 1 ≤ sizeLine; decide, fun tz htz => ?_⟩
  have w4 := same_new htz (.tup [.str "end"])
  have az : Ev.fin.D.At F0 (upd K5 tz (.tup [.str "end"])) (.ref tz) := at_tup upd_same (ats_cons (at_str' (by decide +kernel)) ats_nil)
  have hcz : Cmp 1 Ev.fin.D := ev_cmp (e := .fin) trivial
  generalize upd K5 tz (.tup [.str "end"]) = K6 at w4 az ⊢
  refine ⟨_, _, (hya.keep (fr_same (sameT w3 w4))).dp, az.dp, Dd.shaped hcme.lay (Nat.le_trans hcme.dep (by decide)), Dd.shaped hcz.lay (Nat.le_trans hcz.dep (by decide)), _, rfl, ?_⟩
  rcases hent with ⟨rfl, hn⟩ | ⟨f, rfl, hn⟩
  · rw [eqv_self (Dd.shaped hcz.lay (Nat.le_trans hcz.dep (by decide)))]
    refine iteT ?_
    refine ⟨_, rfl, _, rfl, _, _, rfl, rfl, .inl ⟨by decide, by decide⟩, _, _, rfl, rfl, rfl, ?_⟩
    show Q (.bl (decide (V.int (entN l : Int) = V.int (1 + 2 * (((ys' ++ [y]).length : Int) - 1))))) K6
    rw [ieq (by rw [hn, List.length_append]; show ((1 + 2 * es.length : Nat) : Int) = 1 + 2 * (((ys'.length + 1 : Nat) : Int) - 1); omega)]
    exact q K6
  · rw [show PyData.eqv (Ev.fault f).D.D Ev.fin.D.D = false by simp [Ev.D, Dd.D, Dd.Ds, PyData.eqv, PyData.eqvAll]]
    refine iteF ?_
    refine ⟨_, rfl, _, rfl, _, _, rfl, rfl, .inl ⟨by decide, by decide⟩, _, _, rfl, rfl, rfl, ?_⟩
    show Q (.bl (decide (V.int (entN l : Int) = V.int (2 + 2 * (((ys' ++ [y]).length : Int) - 1))))) K6
    rw [ieq (by rw [hn, List.length_append]; show ((2 + 2 * es.length : Nat) : Int) = 2 + 2 * (((ys'.length + 1 : Nat) : Int) - 1); omega)]
    exact q K6
end
end Toy

set_option Elab.async false
set_option linter.all false
set_option maxRecDepth 100000
set_option maxHeartbeats 4000000
/-! Part S: written tuples and dicts. -/
namespace Toy
open PySem L2
open PyProof.Rows (envOfC)
abbrev sCollect : Stmt := inClass (topS 57) 3
theorem scCollect : FnScope ["self", "many", "cells", "next_address"] ["self"] (defScope sCollect) := ⟨rfl, rfl, rfl, by decide +kernel, rfl, by decide +kernel, by decide +kernel⟩
def strsAre : List Str → List Value → Bool
  | [], [] => true
  | z :: zs, .str x _ :: us => decide (x = z) && strsAre zs us
  | _, _ => false
theorem strsAre_ok : ∀ {zs : List Str} {us : List Value}, strsAre zs us = true → Vals (zs.map V.str) us
  | [], [], _ => .nil
  | [], _ :: _, h => by simp [strsAre] at h
  | _ :: _, [], h => by simp [strsAre] at h
  | z :: zs, u :: us, h => by
    cases u with
    | str x t =>
      simp only [strsAre, Bool.and_eq_true, decide_eq_true_eq] at h
      exact .cons ⟨t, by rw [h.1]⟩ (strsAre_ok h.2)
    | _ => simp [strsAre] at h
theorem written_tup {K : PySem.W.Frag} {a : Addr} {zs : List Str} {oc : Value} {od : Option Addr} {its : Array Value} {n : Nat} {sl : Array (Option Value)} (hz : zs.length ≤ 1000) (l : K.lookup a = some ⟨oc, od, .seq its n, sl⟩) (c : oc = .type "tuple") (v : strsAre zs its.toList = true) : ∀ H : Hp, SqT K H a (zs.map V.str) := fun H => by
  subst c
  have hv := strsAre_ok v
  have hl := hv.length
  rw [List.length_map] at hl
  have hl' : zs.length = its.size := by rw [hl]; exact Array.length_toList
  exact .inr ⟨_, its, n, l, rfl, rfl, Nat.le_of_lt (szl (by omega)), hv⟩
theorem held_of {P : Program} {w : World} {K : PySem.W.Frag} {mg : Str → Option Value} {base : Heap} {k : Nat} {x : Str} {f : Addr} {sp : Sp} (c : C8.Cal P w K mg base k x sp []) (hm : mg x = some (.ref f)) : Held P w K mg base k f sp := by
  obtain ⟨f', fd, ps, ds, F, hm', kp, b, d⟩ := c.ex
  rw [hm] at hm'
  cases hm'
  cases d
  exact ⟨fd, ps, F, kp, b⟩
def tab (l : List (Addr × Sp)) (f : Addr) : Option Sp := (l.find? fun q => decide (q.1 = f)).map (·.2)
theorem tab_mem : ∀ {l : List (Addr × Sp)}, (l.map (·.1)).Nodup → ∀ {f : Addr} {sp : Sp}, (f, sp) ∈ l → tab l f = some sp
  | q :: l, h, f, sp, m => by
    rw [List.map_cons, List.nodup_cons] at h
    unfold tab
    rw [List.find?_cons]
    rcases List.mem_cons.mp m with e | e
    · rw [← e, show decide ((f, sp).1 = f) = true from decide_eq_true rfl]
      rfl
    · rw [show decide (q.1 = f) = false from decide_eq_false fun z => h.1 (by rw [z]; exact List.mem_map.mpr ⟨_, e, rfl⟩)]
      exact tab_mem h.2 e
theorem tab_of {l : List (Addr × Sp)} {f : Addr} {sp : Sp} (h : tab l f = some sp) : (f, sp) ∈ l := by
  unfold tab at h
  obtain ⟨q, hq, rfl⟩ := Option.map_eq_some_iff.mp h
  have h1 := List.mem_of_find?_eq_some hq
  have h2 := List.find?_some (p := fun q : Addr × Sp => decide (q.1 = f)) hq
  have h2 : q.1 = f := of_decide_eq_true h2
  rw [← h2]
  exact h1
theorem held_up {P : Program} {w : World} {K : PySem.W.Frag} {mg : Str → Option Value} {base : Heap} {j k : Nat} {f : Addr} {sp : Sp} (h : Held P w K mg base j f sp) (hj : j ≤ k) : Held P w K mg base k f sp := by
  obtain ⟨fd, ps, F, kp, b⟩ := h
  exact ⟨fd, ps, F.mono hj, kp, b⟩
theorem met_none {P : Program} {w : World} {K : PySem.W.Frag} {mg : Str → Option Value} {base : Heap} {C : Addr} {m qual : Str} {st : Stmt} {f : Addr} {fd : FuncData} {ps : List Str} {k : Nat} {sp : Sp} (c : Cls K C) (me : Meth K C m f) (F : Fun K m qual st f fd) (b : Binds K fd ps []) (no : ∀ vs H Q E, ¬ sp vs H Q E) : C8.Met P w K mg base k C m sp [] :=
  ⟨f, fd, ps, [], c, me, ⟨fun vs H Q E h => (no _ _ _ _ h).elim, fun A outer s H args us vs Q E hr e0 hb r hsp => (no _ _ _ _ hsp).elim⟩, b, .nil⟩
end Toy

set_option Elab.async false
set_option linter.all false
set_option maxRecDepth 100000
set_option maxHeartbeats 4000000
/-! The last part: what the program's top has left, and the end. -/
namespace Toy
open PySem L2
open PyProof.Rows (envOfC)
theorem all_mk {l : PySem.W.OpenLaw} {w : World} {K : PySem.W.Frag} {h : Heap} {mg : Str → Option Value} {fa : Addr} {f0 f1 f2 f3 f4 f5 f6 f7 f8 f9 f10 f11 f12 f13 f14 f15 f16 f17 f18 f19 f20 f21 f22 f23 f24 f25 f26 f27 f28 f29 f30 f31 f32 f33 f34 f35 f36 f37 f38 f39 f40 f41 : Addr} (X : K.In h) (G : h.Ns mainGlobals mg) (hfa : mg "law" = some (.ref fa))
    {od0 an0 od1 an1 od2 an2 od3 an3 od4 an4 od5 an5 od6 an6 od7 an7 od8 an8 od9 an9 od10 an10 od11 an11 od12 an12 od13 an13 od14 an14 od15 an15 od16 an16 od17 an17 od18 an18 od19 an19 od20 an20 od21 an21 od22 an22 od23 an23 od24 an24 od25 an25 od26 an26 od27 an27 od28 an28 od29 an29 od30 an30 od31 an31 od32 an32 od33 an33 od34 an34 od35 an35 od36 an36 od37 an37 od38 an38 od39 an39 od40 an40 od41 an41 : Option Addr} {sl0 sl1 sl2 sl3 sl4 sl5 sl6 sl7 sl8 sl9 sl10 sl11 sl12 sl13 sl14 sl15 sl16 sl17 sl18 sl19 sl20 sl21 sl22 sl23 sl24 sl25 sl26 sl27 sl28 sl29 sl30 sl31 sl32 sl33 sl34 sl35 sl36 sl37 sl38 sl39 sl40 sl41 : Array (Option Value)} {oc0 kV0 dc0 pm0 cd0 ct0 oc1 kV1 dc1 pm1 cd1 ct1 oc2 kV2 dc2 pm2 cd2 ct2 oc3 kV3 dc3 pm3 cd3 ct3 oc4 kV4 dc4 pm4 cd4 ct4 oc5 kV5 dc5 pm5 cd5 ct5 oc6 kV6 dc6 pm6 cd6 ct6 oc7 kV7 dc7 pm7 cd7 ct7 oc8 kV8 dc8 pm8 cd8 ct8 oc9 kV9 dc9 pm9 cd9 ct9 oc10 kV10 dc10 pm10 cd10 ct10 oc11 kV11 dc11 pm11 cd11 ct11 oc12 kV12 dc12 pm12 cd12 ct12 oc13 kV13 dc13 pm13 cd13 ct13 oc14 kV14 dc14 pm14 cd14 ct14 oc15 kV15 dc15 pm15 cd15 ct15 oc16 kV16 dc16 pm16 cd16 ct16 oc17 kV17 dc17 pm17 cd17 ct17 oc18 kV18 dc18 pm18 cd18 ct18 oc19 kV19 dc19 pm19 cd19 ct19 oc20 kV20 dc20 pm20 cd20 ct20 oc21 kV21 dc21 pm21 cd21 ct21 oc22 kV22 dc22 pm22 cd22 ct22 oc23 kV23 dc23 pm23 cd23 ct23 oc24 kV24 dc24 pm24 cd24 ct24 oc25 kV25 dc25 pm25 cd25 ct25 oc26 kV26 dc26 pm26 cd26 ct26 oc27 kV27 dc27 pm27 cd27 ct27 oc28 kV28 dc28 pm28 cd28 ct28 oc29 kV29 dc29 pm29 cd29 ct29 oc30 kV30 dc30 pm30 cd30 ct30 oc31 kV31 dc31 pm31 cd31 ct31 oc32 kV32 dc32 pm32 cd32 ct32 oc33 kV33 dc33 pm33 cd33 ct33 oc34 kV34 dc34 pm34 cd34 ct34 oc35 kV35 dc35 pm35 cd35 ct35 oc36 kV36 dc36 pm36 cd36 ct36 oc37 kV37 dc37 pm37 cd37 ct37 oc38 kV38 dc38 pm38 cd38 ct38 oc39 kV39 dc39 pm39 cd39 ct39 oc40 kV40 dc40 pm40 cd40 ct40 oc41 kV41 dc41 pm41 cd41 ct41 : Value}
    {aEV aMT CM CH pStop : Addr} {esEV esMT : Array DictEntry} {nEV nMT : Nat} {tk1 tk2 : Tok} {restStop : List Value} {aST : Addr} {nST : Nat} {ocST : Value} {odST : Option Addr} {itST : Array Value} {slST : Array (Option Value)} {aCO : Addr} {nCO : Nat} {ocCO : Value} {odCO : Option Addr} {itCO : Array Value} {slCO : Array (Option Value)} {aSP : Addr} {nSP : Nat} {ocSP : Value} {odSP : Option Addr} {itSP : Array Value} {slSP : Array (Option Value)} {aBZ : Addr} {nBZ : Nat} {ocBZ : Value} {odBZ : Option Addr} {itBZ : Array Value} {slBZ : Array (Option Value)} {aOV : Addr} {nOV : Nat} {ocOV : Value} {odOV : Option Addr} {itOV : Array Value} {slOV : Array (Option Value)} {gMInit : Addr} {modMInit manMInit : Option Addr} {mslMInit : Array (Option Value)} {mocMInit mkVMInit mdcMInit mpmMInit mcdMInit mctMInit : Value} {gStep : Addr} {modStep manStep : Option Addr} {mslStep : Array (Option Value)} {mocStep mkVStep mdcStep mpmStep mcdStep mctStep : Value} {gCollect : Addr} {modCollect manCollect : Option Addr} {mslCollect : Array (Option Value)} {mocCollect mkVCollect mdcCollect mpmCollect mcdCollect mctCollect : Value} {gHasRoom : Addr} {modHasRoom manHasRoom : Option Addr} {mslHasRoom : Array (Option Value)} {mocHasRoom mkVHasRoom mdcHasRoom mpmHasRoom mcdHasRoom mctHasRoom : Value} {gHInit : Addr} {modHInit manHInit : Option Addr} {mslHInit : Array (Option Value)} {mocHInit mkVHInit mdcHInit mpmHInit mcdHInit mctHInit : Value} {gMake : Addr} {modMake manMake : Option Addr} {mslMake : Array (Option Value)} {mocMake mkVMake mdcMake mpmMake mcdMake mctMake : Value} {gCell : Addr} {modCell manCell : Option Addr} {mslCell : Array (Option Value)} {mocCell mkVCell mdcCell mpmCell mcdCell mctCell : Value} {gPut : Addr} {modPut manPut : Option Addr} {mslPut : Array (Option Value)} {mocPut mkVPut mdcPut mpmPut mcdPut mctPut : Value} {gFits : Addr} {modFits manFits : Option Addr} {mslFits : Array (Option Value)} {mocFits mkVFits mdcFits mpmFits mcdFits mctFits : Value} {gStopped : Addr} {modStopped manStopped : Option Addr} {mslStopped : Array (Option Value)} {mocStopped mkVStopped mdcStopped mpmStopped mcdStopped mctStopped : Value} 
    (a0 : PySem.W.nsIn K mainGlobals "enter" = some (some (.ref f0)))
    (l0 : K.lookup f0 = some ⟨oc0, od0, .func (PySem.W.fnOf "enter" "enter" (defArgs sEnter) (defBody sEnter) (defScope sEnter) .none kV0 dc0 pm0 an0 cd0 ct0), sl0⟩)
    (c0 : PySem.W.codeIn K cd0 "enter" = true)
    (k0 : PySem.W.keepIn K (.ref f0) = true)
    (a1 : PySem.W.nsIn K mainGlobals "size_of" = some (some (.ref f1)))
    (l1 : K.lookup f1 = some ⟨oc1, od1, .func (PySem.W.fnOf "size_of" "size_of" (defArgs sSize) (defBody sSize) (defScope sSize) .none kV1 dc1 pm1 an1 cd1 ct1), sl1⟩)
    (c1 : PySem.W.codeIn K cd1 "size_of" = true)
    (k1 : PySem.W.keepIn K (.ref f1) = true)
    (a2 : PySem.W.nsIn K mainGlobals "word_of" = some (some (.ref f2)))
    (l2 : K.lookup f2 = some ⟨oc2, od2, .func (PySem.W.fnOf "word_of" "word_of" (defArgs sWordOf) (defBody sWordOf) (defScope sWordOf) .none kV2 dc2 pm2 an2 cd2 ct2), sl2⟩)
    (c2 : PySem.W.codeIn K cd2 "word_of" = true)
    (k2 : PySem.W.keepIn K (.ref f2) = true)
    (a3 : PySem.W.nsIn K mainGlobals "size_to_evaluate" = some (some (.ref f3)))
    (l3 : K.lookup f3 = some ⟨oc3, od3, .func (PySem.W.fnOf "size_to_evaluate" "size_to_evaluate" (defArgs sSizeE) (defBody sSizeE) (defScope sSizeE) .none kV3 dc3 pm3 an3 cd3 ct3), sl3⟩)
    (c3 : PySem.W.codeIn K cd3 "size_to_evaluate" = true)
    (k3 : PySem.W.keepIn K (.ref f3) = true)
    (a4 : PySem.W.nsIn K mainGlobals "evaluate" = some (some (.ref f4)))
    (l4 : K.lookup f4 = some ⟨oc4, od4, .func (PySem.W.fnOf "evaluate" "evaluate" (defArgs sEvaluate) (defBody sEvaluate) (defScope sEvaluate) .none kV4 dc4 pm4 an4 cd4 ct4), sl4⟩)
    (c4 : PySem.W.codeIn K cd4 "evaluate" = true)
    (k4 : PySem.W.keepIn K (.ref f4) = true)
    (a5 : PySem.W.nsIn K mainGlobals "_evaluate_give" = some (some (.ref f5)))
    (l5 : K.lookup f5 = some ⟨oc5, od5, .func (PySem.W.fnOf "_evaluate_give" "_evaluate_give" (defArgs sEvGive) (defBody sEvGive) (defScope sEvGive) .none kV5 dc5 pm5 an5 cd5 ct5), sl5⟩)
    (c5 : PySem.W.codeIn K cd5 "_evaluate_give" = true)
    (k5 : PySem.W.keepIn K (.ref f5) = true)
    (a6 : PySem.W.nsIn K mainGlobals "_evaluate_call" = some (some (.ref f6)))
    (l6 : K.lookup f6 = some ⟨oc6, od6, .func (PySem.W.fnOf "_evaluate_call" "_evaluate_call" (defArgs sEvCall) (defBody sEvCall) (defScope sEvCall) .none kV6 dc6 pm6 an6 cd6 ct6), sl6⟩)
    (c6 : PySem.W.codeIn K cd6 "_evaluate_call" = true)
    (k6 : PySem.W.keepIn K (.ref f6) = true)
    (a7 : PySem.W.nsIn K mainGlobals "_evaluate_con" = some (some (.ref f7)))
    (l7 : K.lookup f7 = some ⟨oc7, od7, .func (PySem.W.fnOf "_evaluate_con" "_evaluate_con" (defArgs sEvCon) (defBody sEvCon) (defScope sEvCon) .none kV7 dc7 pm7 an7 cd7 ct7), sl7⟩)
    (c7 : PySem.W.codeIn K cd7 "_evaluate_con" = true)
    (k7 : PySem.W.keepIn K (.ref f7) = true)
    (a8 : PySem.W.nsIn K mainGlobals "_evaluate_prim" = some (some (.ref f8)))
    (l8 : K.lookup f8 = some ⟨oc8, od8, .func (PySem.W.fnOf "_evaluate_prim" "_evaluate_prim" (defArgs sEvPrim) (defBody sEvPrim) (defScope sEvPrim) .none kV8 dc8 pm8 an8 cd8 ct8), sl8⟩)
    (c8 : PySem.W.codeIn K cd8 "_evaluate_prim" = true)
    (k8 : PySem.W.keepIn K (.ref f8) = true)
    (a9 : PySem.W.nsIn K mainGlobals "_evaluate_let" = some (some (.ref f9)))
    (l9 : K.lookup f9 = some ⟨oc9, od9, .func (PySem.W.fnOf "_evaluate_let" "_evaluate_let" (defArgs sEvLet) (defBody sEvLet) (defScope sEvLet) .none kV9 dc9 pm9 an9 cd9 ct9), sl9⟩)
    (c9 : PySem.W.codeIn K cd9 "_evaluate_let" = true)
    (k9 : PySem.W.keepIn K (.ref f9) = true)
    (a10 : PySem.W.nsIn K mainGlobals "_evaluate_seq" = some (some (.ref f10)))
    (l10 : K.lookup f10 = some ⟨oc10, od10, .func (PySem.W.fnOf "_evaluate_seq" "_evaluate_seq" (defArgs sEvSeq) (defBody sEvSeq) (defScope sEvSeq) .none kV10 dc10 pm10 an10 cd10 ct10), sl10⟩)
    (c10 : PySem.W.codeIn K cd10 "_evaluate_seq" = true)
    (k10 : PySem.W.keepIn K (.ref f10) = true)
    (a11 : PySem.W.nsIn K mainGlobals "_evaluate_choice" = some (some (.ref f11)))
    (l11 : K.lookup f11 = some ⟨oc11, od11, .func (PySem.W.fnOf "_evaluate_choice" "_evaluate_choice" (defArgs sEvChoice) (defBody sEvChoice) (defScope sEvChoice) .none kV11 dc11 pm11 an11 cd11 ct11), sl11⟩)
    (c11 : PySem.W.codeIn K cd11 "_evaluate_choice" = true)
    (k11 : PySem.W.keepIn K (.ref f11) = true)
    (a12 : PySem.W.nsIn K mainGlobals "_evaluate_note" = some (some (.ref f12)))
    (l12 : K.lookup f12 = some ⟨oc12, od12, .func (PySem.W.fnOf "_evaluate_note" "_evaluate_note" (defArgs sEvNote) (defBody sEvNote) (defScope sEvNote) .none kV12 dc12 pm12 an12 cd12 ct12), sl12⟩)
    (c12 : PySem.W.codeIn K cd12 "_evaluate_note" = true)
    (k12 : PySem.W.keepIn K (.ref f12) = true)
    (a13 : PySem.W.nsIn K mainGlobals "_words_of" = some (some (.ref f13)))
    (l13 : K.lookup f13 = some ⟨oc13, od13, .func (PySem.W.fnOf "_words_of" "_words_of" (defArgs sWordsOf) (defBody sWordsOf) (defScope sWordsOf) .none kV13 dc13 pm13 an13 cd13 ct13), sl13⟩)
    (c13 : PySem.W.codeIn K cd13 "_words_of" = true)
    (k13 : PySem.W.keepIn K (.ref f13) = true)
    (a14 : PySem.W.nsIn K mainGlobals "_size_of_member" = some (some (.ref f14)))
    (l14 : K.lookup f14 = some ⟨oc14, od14, .func (PySem.W.fnOf "_size_of_member" "_size_of_member" (defArgs sSizeM) (defBody sSizeM) (defScope sSizeM) .none kV14 dc14 pm14 an14 cd14 ct14), sl14⟩)
    (c14 : PySem.W.codeIn K cd14 "_size_of_member" = true)
    (k14 : PySem.W.keepIn K (.ref f14) = true)
    (a15 : PySem.W.nsIn K mainGlobals "_member_cell" = some (some (.ref f15)))
    (l15 : K.lookup f15 = some ⟨oc15, od15, .func (PySem.W.fnOf "_member_cell" "_member_cell" (defArgs sMemCell) (defBody sMemCell) (defScope sMemCell) .none kV15 dc15 pm15 an15 cd15 ct15), sl15⟩)
    (c15 : PySem.W.codeIn K cd15 "_member_cell" = true)
    (k15 : PySem.W.keepIn K (.ref f15) = true)
    (a16 : PySem.W.nsIn K mainGlobals "prim_result" = some (some (.ref f16)))
    (l16 : K.lookup f16 = some ⟨oc16, od16, .func (PySem.W.fnOf "prim_result" "prim_result" (defArgs sPrimRes) (defBody sPrimRes) (defScope sPrimRes) .none kV16 dc16 pm16 an16 cd16 ct16), sl16⟩)
    (c16 : PySem.W.codeIn K cd16 "prim_result" = true)
    (k16 : PySem.W.keepIn K (.ref f16) = true)
    (a17 : PySem.W.nsIn K mainGlobals "_holds" = some (some (.ref f17)))
    (l17 : K.lookup f17 = some ⟨oc17, od17, .func (PySem.W.fnOf "_holds" "_holds" (defArgs sHolds) (defBody sHolds) (defScope sHolds) .none kV17 dc17 pm17 an17 cd17 ct17), sl17⟩)
    (c17 : PySem.W.codeIn K cd17 "_holds" = true)
    (k17 : PySem.W.keepIn K (.ref f17) = true)
    (a18 : PySem.W.nsIn K mainGlobals "_worked_out" = some (some (.ref f18)))
    (l18 : K.lookup f18 = some ⟨oc18, od18, .func (PySem.W.fnOf "_worked_out" "_worked_out" (defArgs sWorked) (defBody sWorked) (defScope sWorked) .none kV18 dc18 pm18 an18 cd18 ct18), sl18⟩)
    (c18 : PySem.W.codeIn K cd18 "_worked_out" = true)
    (k18 : PySem.W.keepIn K (.ref f18) = true)
    (a19 : PySem.W.nsIn K mainGlobals "size_to_meet" = some (some (.ref f19)))
    (l19 : K.lookup f19 = some ⟨oc19, od19, .func (PySem.W.fnOf "size_to_meet" "size_to_meet" (defArgs sSizeMt) (defBody sSizeMt) (defScope sSizeMt) .none kV19 dc19 pm19 an19 cd19 ct19), sl19⟩)
    (c19 : PySem.W.codeIn K cd19 "size_to_meet" = true)
    (k19 : PySem.W.keepIn K (.ref f19) = true)
    (a20 : PySem.W.nsIn K mainGlobals "meet" = some (some (.ref f20)))
    (l20 : K.lookup f20 = some ⟨oc20, od20, .func (PySem.W.fnOf "meet" "meet" (defArgs sMeet) (defBody sMeet) (defScope sMeet) .none kV20 dc20 pm20 an20 cd20 ct20), sl20⟩)
    (c20 : PySem.W.codeIn K cd20 "meet" = true)
    (k20 : PySem.W.keepIn K (.ref f20) = true)
    (a21 : PySem.W.nsIn K mainGlobals "_cell_of" = some (some (.ref f21)))
    (l21 : K.lookup f21 = some ⟨oc21, od21, .func (PySem.W.fnOf "_cell_of" "_cell_of" (defArgs sCellOf) (defBody sCellOf) (defScope sCellOf) .none kV21 dc21 pm21 an21 cd21 ct21), sl21⟩)
    (c21 : PySem.W.codeIn K cd21 "_cell_of" = true)
    (k21 : PySem.W.keepIn K (.ref f21) = true)
    (a22 : PySem.W.nsIn K mainGlobals "_is_partial" = some (some (.ref f22)))
    (l22 : K.lookup f22 = some ⟨oc22, od22, .func (PySem.W.fnOf "_is_partial" "_is_partial" (defArgs sIsPart) (defBody sIsPart) (defScope sIsPart) .none kV22 dc22 pm22 an22 cd22 ct22), sl22⟩)
    (c22 : PySem.W.codeIn K cd22 "_is_partial" = true)
    (k22 : PySem.W.keepIn K (.ref f22) = true)
    (a23 : PySem.W.nsIn K mainGlobals "_fault" = some (some (.ref f23)))
    (l23 : K.lookup f23 = some ⟨oc23, od23, .func (PySem.W.fnOf "_fault" "_fault" (defArgs sFault) (defBody sFault) (defScope sFault) .none kV23 dc23 pm23 an23 cd23 ct23), sl23⟩)
    (c23 : PySem.W.codeIn K cd23 "_fault" = true)
    (k23 : PySem.W.keepIn K (.ref f23) = true)
    (a24 : PySem.W.nsIn K mainGlobals "_meet_show" = some (some (.ref f24)))
    (l24 : K.lookup f24 = some ⟨oc24, od24, .func (PySem.W.fnOf "_meet_show" "_meet_show" (defArgs sMtShow) (defBody sMtShow) (defScope sMtShow) .none kV24 dc24 pm24 an24 cd24 ct24), sl24⟩)
    (c24 : PySem.W.codeIn K cd24 "_meet_show" = true)
    (k24 : PySem.W.keepIn K (.ref f24) = true)
    (a25 : PySem.W.nsIn K mainGlobals "_meet_head" = some (some (.ref f25)))
    (l25 : K.lookup f25 = some ⟨oc25, od25, .func (PySem.W.fnOf "_meet_head" "_meet_head" (defArgs sMtHead) (defBody sMtHead) (defScope sMtHead) .none kV25 dc25 pm25 an25 cd25 ct25), sl25⟩)
    (c25 : PySem.W.codeIn K cd25 "_meet_head" = true)
    (k25 : PySem.W.keepIn K (.ref f25) = true)
    (a26 : PySem.W.nsIn K mainGlobals "_meet_update" = some (some (.ref f26)))
    (l26 : K.lookup f26 = some ⟨oc26, od26, .func (PySem.W.fnOf "_meet_update" "_meet_update" (defArgs sMtUpd) (defBody sMtUpd) (defScope sMtUpd) .none kV26 dc26 pm26 an26 cd26 ct26), sl26⟩)
    (c26 : PySem.W.codeIn K cd26 "_meet_update" = true)
    (k26 : PySem.W.keepIn K (.ref f26) = true)
    (a27 : PySem.W.nsIn K mainGlobals "_meet_apply" = some (some (.ref f27)))
    (l27 : K.lookup f27 = some ⟨oc27, od27, .func (PySem.W.fnOf "_meet_apply" "_meet_apply" (defArgs sMtApply) (defBody sMtApply) (defScope sMtApply) .none kV27 dc27 pm27 an27 cd27 ct27), sl27⟩)
    (c27 : PySem.W.codeIn K cd27 "_meet_apply" = true)
    (k27 : PySem.W.keepIn K (.ref f27) = true)
    (a28 : PySem.W.nsIn K mainGlobals "_meet_case" = some (some (.ref f28)))
    (l28 : K.lookup f28 = some ⟨oc28, od28, .func (PySem.W.fnOf "_meet_case" "_meet_case" (defArgs sMtCase) (defBody sMtCase) (defScope sMtCase) .none kV28 dc28 pm28 an28 cd28 ct28), sl28⟩)
    (c28 : PySem.W.codeIn K cd28 "_meet_case" = true)
    (k28 : PySem.W.keepIn K (.ref f28) = true)
    (a29 : PySem.W.nsIn K mainGlobals "_meet_pick" = some (some (.ref f29)))
    (l29 : K.lookup f29 = some ⟨oc29, od29, .func (PySem.W.fnOf "_meet_pick" "_meet_pick" (defArgs sMtPick) (defBody sMtPick) (defScope sMtPick) .none kV29 dc29 pm29 an29 cd29 ct29), sl29⟩)
    (c29 : PySem.W.codeIn K cd29 "_meet_pick" = true)
    (k29 : PySem.W.keepIn K (.ref f29) = true)
    (a30 : PySem.W.nsIn K mainGlobals "_choose_default" = some (some (.ref f30)))
    (l30 : K.lookup f30 = some ⟨oc30, od30, .func (PySem.W.fnOf "_choose_default" "_choose_default" (defArgs sChDef) (defBody sChDef) (defScope sChDef) .none kV30 dc30 pm30 an30 cd30 ct30), sl30⟩)
    (c30 : PySem.W.codeIn K cd30 "_choose_default" = true)
    (k30 : PySem.W.keepIn K (.ref f30) = true)
    (a31 : PySem.W.nsIn K mainGlobals "_meet_seq" = some (some (.ref f31)))
    (l31 : K.lookup f31 = some ⟨oc31, od31, .func (PySem.W.fnOf "_meet_seq" "_meet_seq" (defArgs sMtSeq) (defBody sMtSeq) (defScope sMtSeq) .none kV31 dc31 pm31 an31 cd31 ct31), sl31⟩)
    (c31 : PySem.W.codeIn K cd31 "_meet_seq" = true)
    (k31 : PySem.W.keepIn K (.ref f31) = true)
    (a32 : PySem.W.nsIn K mainGlobals "_meet_right" = some (some (.ref f32)))
    (l32 : K.lookup f32 = some ⟨oc32, od32, .func (PySem.W.fnOf "_meet_right" "_meet_right" (defArgs sMtRight) (defBody sMtRight) (defScope sMtRight) .none kV32 dc32 pm32 an32 cd32 ct32), sl32⟩)
    (c32 : PySem.W.codeIn K cd32 "_meet_right" = true)
    (k32 : PySem.W.keepIn K (.ref f32) = true)
    (a33 : PySem.W.nsIn K mainGlobals "_meet_prim" = some (some (.ref f33)))
    (l33 : K.lookup f33 = some ⟨oc33, od33, .func (PySem.W.fnOf "_meet_prim" "_meet_prim" (defArgs sMtPrim) (defBody sMtPrim) (defScope sMtPrim) .none kV33 dc33 pm33 an33 cd33 ct33), sl33⟩)
    (c33 : PySem.W.codeIn K cd33 "_meet_prim" = true)
    (k33 : PySem.W.keepIn K (.ref f33) = true)
    (a34 : PySem.W.nsIn K mainGlobals "size_needed" = some (some (.ref f34)))
    (l34 : K.lookup f34 = some ⟨oc34, od34, .func (PySem.W.fnOf "size_needed" "size_needed" (defArgs sSizeN) (defBody sSizeN) (defScope sSizeN) .none kV34 dc34 pm34 an34 cd34 ct34), sl34⟩)
    (c34 : PySem.W.codeIn K cd34 "size_needed" = true)
    (k34 : PySem.W.keepIn K (.ref f34) = true)
    (a35 : PySem.W.nsIn K mainGlobals "run_code" = some (some (.ref f35)))
    (l35 : K.lookup f35 = some ⟨oc35, od35, .func (PySem.W.fnOf "run_code" "run_code" (defArgs sRunCode) (defBody sRunCode) (defScope sRunCode) .none kV35 dc35 pm35 an35 cd35 ct35), sl35⟩)
    (c35 : PySem.W.codeIn K cd35 "run_code" = true)
    (k35 : PySem.W.keepIn K (.ref f35) = true)
    (a36 : PySem.W.nsIn K mainGlobals "_law_draws" = some (some (.ref f36)))
    (l36 : K.lookup f36 = some ⟨oc36, od36, .func (PySem.W.fnOf "_law_draws" "_law_draws" (defArgs sDraws) (defBody sDraws) (defScope sDraws) .none kV36 dc36 pm36 an36 cd36 ct36), sl36⟩)
    (c36 : PySem.W.codeIn K cd36 "_law_draws" = true)
    (k36 : PySem.W.keepIn K (.ref f36) = true)
    (a37 : PySem.W.nsIn K mainGlobals "_law_next" = some (some (.ref f37)))
    (l37 : K.lookup f37 = some ⟨oc37, od37, .func (PySem.W.fnOf "_law_next" "_law_next" (defArgs sNext) (defBody sNext) (defScope sNext) .none kV37 dc37 pm37 an37 cd37 ct37), sl37⟩)
    (c37 : PySem.W.codeIn K cd37 "_law_next" = true)
    (k37 : PySem.W.keepIn K (.ref f37) = true)
    (a38 : PySem.W.nsIn K mainGlobals "_law_number" = some (some (.ref f38)))
    (l38 : K.lookup f38 = some ⟨oc38, od38, .func (PySem.W.fnOf "_law_number" "_law_number" (defArgs sLNum) (defBody sLNum) (defScope sLNum) .none kV38 dc38 pm38 an38 cd38 ct38), sl38⟩)
    (c38 : PySem.W.codeIn K cd38 "_law_number" = true)
    (k38 : PySem.W.keepIn K (.ref f38) = true)
    (a39 : PySem.W.nsIn K mainGlobals "_law_term" = some (some (.ref f39)))
    (l39 : K.lookup f39 = some ⟨oc39, od39, .func (PySem.W.fnOf "_law_term" "_law_term" (defArgs sLTerm) (defBody sLTerm) (defScope sLTerm) .none kV39 dc39 pm39 an39 cd39 ct39), sl39⟩)
    (c39 : PySem.W.codeIn K cd39 "_law_term" = true)
    (k39 : PySem.W.keepIn K (.ref f39) = true)
    (a40 : PySem.W.nsIn K mainGlobals "_law_result" = some (some (.ref f40)))
    (l40 : K.lookup f40 = some ⟨oc40, od40, .func (PySem.W.fnOf "_law_result" "_law_result" (defArgs sLRes) (defBody sLRes) (defScope sLRes) .none kV40 dc40 pm40 an40 cd40 ct40), sl40⟩)
    (c40 : PySem.W.codeIn K cd40 "_law_result" = true)
    (k40 : PySem.W.keepIn K (.ref f40) = true)
    (a41 : PySem.W.nsIn K mainGlobals "law" = some (some (.ref f41)))
    (l41 : K.lookup f41 = some ⟨oc41, od41, .func (PySem.W.fnOf "law" "law" (defArgs sLaw) (defBody sLaw) (defScope sLaw) .none kV41 dc41 pm41 an41 cd41 ct41), sl41⟩)
    (c41 : PySem.W.codeIn K cd41 "law" = true)
    (k41 : PySem.W.keepIn K (.ref f41) = true)
    (cst1 : PySem.W.nsIn K mainGlobals "LARGEST_NUMBER" = some (some (.int 1000000000000000 tk1)))
    (cst2 : PySem.W.nsIn K mainGlobals "LEAST_SIZE_OF_DELAYED" = some (some (.int 2 tk2)))
    (gtST : PySem.W.nsIn K mainGlobals "STUCK" = some (some (.ref aST)))
    (ltST : K.lookup aST = some ⟨ocST, odST, .seq itST nST, slST⟩)
    (ctST : ocST = .type "tuple")
    (vtST : strsAre ["stuck"] itST.toList = true)
    (gtCO : PySem.W.nsIn K mainGlobals "COMPARISONS" = some (some (.ref aCO)))
    (ltCO : K.lookup aCO = some ⟨ocCO, odCO, .seq itCO nCO, slCO⟩)
    (ctCO : ocCO = .type "tuple")
    (vtCO : strsAre ineqs itCO.toList = true)
    (gtSP : PySem.W.nsIn K mainGlobals "STOPPED" = some (some (.ref aSP)))
    (ltSP : K.lookup aSP = some ⟨ocSP, odSP, .seq itSP nSP, slSP⟩)
    (ctSP : ocSP = .type "tuple")
    (vtSP : strsAre stops itSP.toList = true)
    (gtBZ : PySem.W.nsIn K mainGlobals "BY_ZERO" = some (some (.ref aBZ)))
    (ltBZ : K.lookup aBZ = some ⟨ocBZ, odBZ, .seq itBZ nBZ, slBZ⟩)
    (ctBZ : ocBZ = .type "tuple")
    (vtBZ : strsAre ["fault", "division by zero"] itBZ.toList = true)
    (gtOV : PySem.W.nsIn K mainGlobals "OVERFLOW" = some (some (.ref aOV)))
    (ltOV : K.lookup aOV = some ⟨ocOV, odOV, .seq itOV nOV, slOV⟩)
    (ctOV : ocOV = .type "tuple")
    (vtOV : strsAre ["fault", "overflow"] itOV.toList = true)
    (gdEV : PySem.W.nsIn K mainGlobals "EVALUATIONS" = some (some (.ref aEV)))
    (ldEV : K.lookup aEV = some ⟨.type "dict", none, .dict esEV nEV, #[]⟩)
    (kdEV : PySem.W.KeysLit w.params esEV.toList)
    (sdEV : (aEV == sysModules) = false)
    (wEVgive : PySem.W.nsIn K aEV "give" = some (some (.ref f5)))
    (wEVcall : PySem.W.nsIn K aEV "call" = some (some (.ref f6)))
    (wEVcon : PySem.W.nsIn K aEV "con" = some (some (.ref f7)))
    (wEVprim : PySem.W.nsIn K aEV "prim" = some (some (.ref f8)))
    (wEVlet : PySem.W.nsIn K aEV "let" = some (some (.ref f9)))
    (wEVseq : PySem.W.nsIn K aEV "seq" = some (some (.ref f10)))
    (wEVcase : PySem.W.nsIn K aEV "case" = some (some (.ref f11)))
    (wEVpick : PySem.W.nsIn K aEV "pick" = some (some (.ref f11)))
    (wEVnote : PySem.W.nsIn K aEV "note" = some (some (.ref f12)))
    (gdMT : PySem.W.nsIn K mainGlobals "MEETINGS" = some (some (.ref aMT)))
    (ldMT : K.lookup aMT = some ⟨.type "dict", none, .dict esMT nMT, #[]⟩)
    (kdMT : PySem.W.KeysLit w.params esMT.toList)
    (sdMT : (aMT == sysModules) = false)
    (wMTshow : PySem.W.nsIn K aMT "show" = some (some (.ref f24)))
    (wMThead : PySem.W.nsIn K aMT "head" = some (some (.ref f25)))
    (wMTupdate : PySem.W.nsIn K aMT "update" = some (some (.ref f26)))
    (wMTapply : PySem.W.nsIn K aMT "apply" = some (some (.ref f27)))
    (wMTcase : PySem.W.nsIn K aMT "case" = some (some (.ref f28)))
    (wMTpick : PySem.W.nsIn K aMT "pick" = some (some (.ref f29)))
    (wMTseq : PySem.W.nsIn K aMT "seq" = some (some (.ref f31)))
    (wMTright : PySem.W.nsIn K aMT "right" = some (some (.ref f32)))
    (wMTprim : PySem.W.nsIn K aMT "prim" = some (some (.ref f33)))
    (ndE : ([f5, f6, f7, f8, f9, f10, f11, f12] : List Addr).Nodup)
    (ndM : ([f24, f25, f26, f27, f28, f29, f31, f32, f33] : List Addr).Nodup)
    (aM : PySem.W.nsIn K mainGlobals "Machine" = some (some (.ref CM)))
    (pgM : PySem.W.plainGet K CM Str.empty = true)
    (hdM : PySem.W.hasDictIn K CM = true)
    (poM : PySem.W.plainOver K CM = true)
    (saM : PySem.W.findIn K (.ref CM) "__setattr__" = some (some (.builtin "object.__setattr__")))
    (mkM : PySem.W.makesIn K CM = true)
    (kcM : PySem.W.keepIn K (.ref CM) = true)
    (noM0 : PySem.W.findIn K (.ref CM) "functions" = some none)
    (noM1 : PySem.W.findIn K (.ref CM) "heap" = some none)
    (noM2 : PySem.W.findIn K (.ref CM) "next_serial" = some none)
    (noM3 : PySem.W.findIn K (.ref CM) "stack" = some none)
    (noM4 : PySem.W.findIn K (.ref CM) "now" = some none)
    (noM5 : PySem.W.findIn K (.ref CM) "events" = some none)
    (noM6 : PySem.W.findIn K (.ref CM) "entered" = some none)
    (noM7 : PySem.W.findIn K (.ref CM) "collections" = some none)
    (maMInit : PySem.W.findIn K (.ref CM) "__init__" = some (some (.ref gMInit)))
    (miMInit : PySem.W.isFn K (.ref gMInit) = true)
    (mlMInit : K.lookup gMInit = some ⟨mocMInit, modMInit, .func (PySem.W.fnOf "__init__" "Machine.__init__" (defArgs sMInit) (defBody sMInit) (defScope sMInit) .none mkVMInit mdcMInit mpmMInit manMInit mcdMInit mctMInit), mslMInit⟩)
    (mcMInit : PySem.W.codeIn K mcdMInit "Machine.__init__" = true)
    (mkMInit : PySem.W.keepIn K (.ref gMInit) = true)
    (maStep : PySem.W.findIn K (.ref CM) "step" = some (some (.ref gStep)))
    (miStep : PySem.W.isFn K (.ref gStep) = true)
    (mlStep : K.lookup gStep = some ⟨mocStep, modStep, .func (PySem.W.fnOf "step" "Machine.step" (defArgs sStep) (defBody sStep) (defScope sStep) .none mkVStep mdcStep mpmStep manStep mcdStep mctStep), mslStep⟩)
    (mcStep : PySem.W.codeIn K mcdStep "Machine.step" = true)
    (mkStep : PySem.W.keepIn K (.ref gStep) = true)
    (maCollect : PySem.W.findIn K (.ref CM) "collect" = some (some (.ref gCollect)))
    (miCollect : PySem.W.isFn K (.ref gCollect) = true)
    (mlCollect : K.lookup gCollect = some ⟨mocCollect, modCollect, .func (PySem.W.fnOf "collect" "Machine.collect" (defArgs sCollect) (defBody sCollect) (defScope sCollect) .none mkVCollect mdcCollect mpmCollect manCollect mcdCollect mctCollect), mslCollect⟩)
    (mcCollect : PySem.W.codeIn K mcdCollect "Machine.collect" = true)
    (mkCollect : PySem.W.keepIn K (.ref gCollect) = true)
    (maHasRoom : PySem.W.findIn K (.ref CM) "has_room" = some (some (.ref gHasRoom)))
    (miHasRoom : PySem.W.isFn K (.ref gHasRoom) = true)
    (mlHasRoom : K.lookup gHasRoom = some ⟨mocHasRoom, modHasRoom, .func (PySem.W.fnOf "has_room" "Machine.has_room" (defArgs sHasRoom) (defBody sHasRoom) (defScope sHasRoom) .none mkVHasRoom mdcHasRoom mpmHasRoom manHasRoom mcdHasRoom mctHasRoom), mslHasRoom⟩)
    (mcHasRoom : PySem.W.codeIn K mcdHasRoom "Machine.has_room" = true)
    (mkHasRoom : PySem.W.keepIn K (.ref gHasRoom) = true)
    (aH : PySem.W.nsIn K mainGlobals "Heap" = some (some (.ref CH)))
    (pgH : PySem.W.plainGet K CH Str.empty = true)
    (hdH : PySem.W.hasDictIn K CH = true)
    (poH : PySem.W.plainOver K CH = true)
    (saH : PySem.W.findIn K (.ref CH) "__setattr__" = some (some (.builtin "object.__setattr__")))
    (mkH : PySem.W.makesIn K CH = true)
    (kcH : PySem.W.keepIn K (.ref CH) = true)
    (noH0 : PySem.W.findIn K (.ref CH) "room" = some none)
    (noH1 : PySem.W.findIn K (.ref CH) "used" = some none)
    (noH2 : PySem.W.findIn K (.ref CH) "cells" = some none)
    (noH3 : PySem.W.findIn K (.ref CH) "next_address" = some none)
    (maHInit : PySem.W.findIn K (.ref CH) "__init__" = some (some (.ref gHInit)))
    (miHInit : PySem.W.isFn K (.ref gHInit) = true)
    (mlHInit : K.lookup gHInit = some ⟨mocHInit, modHInit, .func (PySem.W.fnOf "__init__" "Heap.__init__" (defArgs sHInit) (defBody sHInit) (defScope sHInit) .none mkVHInit mdcHInit mpmHInit manHInit mcdHInit mctHInit), mslHInit⟩)
    (mcHInit : PySem.W.codeIn K mcdHInit "Heap.__init__" = true)
    (mkHInit : PySem.W.keepIn K (.ref gHInit) = true)
    (maMake : PySem.W.findIn K (.ref CH) "make" = some (some (.ref gMake)))
    (miMake : PySem.W.isFn K (.ref gMake) = true)
    (mlMake : K.lookup gMake = some ⟨mocMake, modMake, .func (PySem.W.fnOf "make" "Heap.make" (defArgs sMake) (defBody sMake) (defScope sMake) .none mkVMake mdcMake mpmMake manMake mcdMake mctMake), mslMake⟩)
    (mcMake : PySem.W.codeIn K mcdMake "Heap.make" = true)
    (mkMake : PySem.W.keepIn K (.ref gMake) = true)
    (maCell : PySem.W.findIn K (.ref CH) "cell" = some (some (.ref gCell)))
    (miCell : PySem.W.isFn K (.ref gCell) = true)
    (mlCell : K.lookup gCell = some ⟨mocCell, modCell, .func (PySem.W.fnOf "cell" "Heap.cell" (defArgs sCell) (defBody sCell) (defScope sCell) .none mkVCell mdcCell mpmCell manCell mcdCell mctCell), mslCell⟩)
    (mcCell : PySem.W.codeIn K mcdCell "Heap.cell" = true)
    (mkCell : PySem.W.keepIn K (.ref gCell) = true)
    (maPut : PySem.W.findIn K (.ref CH) "put" = some (some (.ref gPut)))
    (miPut : PySem.W.isFn K (.ref gPut) = true)
    (mlPut : K.lookup gPut = some ⟨mocPut, modPut, .func (PySem.W.fnOf "put" "Heap.put" (defArgs sPut) (defBody sPut) (defScope sPut) .none mkVPut mdcPut mpmPut manPut mcdPut mctPut), mslPut⟩)
    (mcPut : PySem.W.codeIn K mcdPut "Heap.put" = true)
    (mkPut : PySem.W.keepIn K (.ref gPut) = true)
    (maFits : PySem.W.findIn K (.ref CH) "fits" = some (some (.ref gFits)))
    (miFits : PySem.W.isFn K (.ref gFits) = true)
    (mlFits : K.lookup gFits = some ⟨mocFits, modFits, .func (PySem.W.fnOf "fits" "Heap.fits" (defArgs sFits) (defBody sFits) (defScope sFits) .none mkVFits mdcFits mpmFits manFits mcdFits mctFits), mslFits⟩)
    (mcFits : PySem.W.codeIn K mcdFits "Heap.fits" = true)
    (mkFits : PySem.W.keepIn K (.ref gFits) = true)
    (pa1 : PySem.W.findIn K (.ref CM) "stopped" = some (some (.ref pStop)))
    (pa2 : PySem.W.specialIn K (.ref pStop) "__get__" = some (some (.builtin "property.__get__")))
    (pa3 : PySem.W.takesIn K (.ref pStop) = some true)
    (pa4 : PySem.W.recIn K pStop "property" = some (.ref gStopped :: restStop))
    (mlStopped : K.lookup gStopped = some ⟨mocStopped, modStopped, .func (PySem.W.fnOf "stopped" "Machine.stopped" (defArgs sStopped) (defBody sStopped) (defScope sStopped) .none mkVStopped mdcStopped mpmStopped manStopped mcdStopped mctStopped), mslStopped⟩)
    (mcStopped : PySem.W.codeIn K mcdStopped "Machine.stopped" = true)
    (mkStopped : PySem.W.keepIn K (.ref gStopped) = true)
    (zlen : PySem.W.nsIn K mainGlobals "len" = some none)
    (zint : PySem.W.nsIn K mainGlobals "int" = some none)
    (zrange : PySem.W.nsIn K mainGlobals "range" = some none)
    (zabs : PySem.W.nsIn K mainGlobals "abs" = some none)
    (ztuple : PySem.W.nsIn K mainGlobals "tuple" = some none)
    (zmax : PySem.W.nsIn K mainGlobals "max" = some none)
    (zsum : PySem.W.nsIn K mainGlobals "sum" = some none)
    (zenumerate : PySem.W.nsIn K mainGlobals "enumerate" = some none) :
    ∃ fd : FuncData, (∀ (s : Shared) (v : Value), BindsTo s fd ⟨[v], []⟩ [("script", v)]) ∧ ∀ base : Heap, K.In base → base.Ns mainGlobals mg → FnOk l.prog w K mg base CX0 8 fa fd ["script"] (spLaw K) := by
  have e := hfa.symm.trans (PySem.W.mg_of X G a41)
  cases e
  have nlen := PySem.W.mg_none_of X G zlen
  have nint := PySem.W.mg_none_of X G zint
  have nrange := PySem.W.mg_none_of X G zrange
  have nabs := PySem.W.mg_none_of X G zabs
  have ntuple := PySem.W.mg_none_of X G ztuple
  have nmax := PySem.W.mg_none_of X G zmax
  have nsum := PySem.W.mg_none_of X G zsum
  have nenumerate := PySem.W.mg_none_of X G zenumerate
  have FEnter := fun_mk (st := sEnter) l0 c0 k0
  have bEnter := FEnter.binds (ps := ["machine", "word"]) fun _ _ _ _ _ _ us hl => match us, hl with | [_, _], _ => rfl
  have mEnter := PySem.W.mg_of X G a0
  have FSize := fun_mk (st := sSize) l1 c1 k1
  have bSize := FSize.binds (ps := ["cell"]) fun _ _ _ _ _ _ us hl => match us, hl with | [_], _ => rfl
  have mSize := PySem.W.mg_of X G a1
  have FWordOf := fun_mk (st := sWordOf) l2 c2 k2
  have bWordOf := FWordOf.binds (ps := ["operand", "words"]) fun _ _ _ _ _ _ us hl => match us, hl with | [_, _], _ => rfl
  have mWordOf := PySem.W.mg_of X G a2
  have FSizeE := fun_mk (st := sSizeE) l3 c3 k3
  have bSizeE := FSizeE.binds (ps := ["body"]) fun _ _ _ _ _ _ us hl => match us, hl with | [_], _ => rfl
  have mSizeE := PySem.W.mg_of X G a3
  have FEvaluate := fun_mk (st := sEvaluate) l4 c4 k4
  have bEvaluate := FEvaluate.binds (ps := ["machine", "body", "words"]) fun _ _ _ _ _ _ us hl => match us, hl with | [_, _, _], _ => rfl
  have mEvaluate := PySem.W.mg_of X G a4
  have FEvGive := fun_mk (st := sEvGive) l5 c5 k5
  have bEvGive := FEvGive.binds (ps := ["machine", "body", "words"]) fun _ _ _ _ _ _ us hl => match us, hl with | [_, _, _], _ => rfl
  have mEvGive := PySem.W.mg_of X G a5
  have FEvCall := fun_mk (st := sEvCall) l6 c6 k6
  have bEvCall := FEvCall.binds (ps := ["machine", "body", "words"]) fun _ _ _ _ _ _ us hl => match us, hl with | [_, _, _], _ => rfl
  have mEvCall := PySem.W.mg_of X G a6
  have FEvCon := fun_mk (st := sEvCon) l7 c7 k7
  have bEvCon := FEvCon.binds (ps := ["machine", "body", "words"]) fun _ _ _ _ _ _ us hl => match us, hl with | [_, _, _], _ => rfl
  have mEvCon := PySem.W.mg_of X G a7
  have FEvPrim := fun_mk (st := sEvPrim) l8 c8 k8
  have bEvPrim := FEvPrim.binds (ps := ["machine", "body", "words"]) fun _ _ _ _ _ _ us hl => match us, hl with | [_, _, _], _ => rfl
  have mEvPrim := PySem.W.mg_of X G a8
  have FEvLet := fun_mk (st := sEvLet) l9 c9 k9
  have bEvLet := FEvLet.binds (ps := ["machine", "body", "words"]) fun _ _ _ _ _ _ us hl => match us, hl with | [_, _, _], _ => rfl
  have mEvLet := PySem.W.mg_of X G a9
  have FEvSeq := fun_mk (st := sEvSeq) l10 c10 k10
  have bEvSeq := FEvSeq.binds (ps := ["machine", "body", "words"]) fun _ _ _ _ _ _ us hl => match us, hl with | [_, _, _], _ => rfl
  have mEvSeq := PySem.W.mg_of X G a10
  have FEvChoice := fun_mk (st := sEvChoice) l11 c11 k11
  have bEvChoice := FEvChoice.binds (ps := ["machine", "body", "words"]) fun _ _ _ _ _ _ us hl => match us, hl with | [_, _, _], _ => rfl
  have mEvChoice := PySem.W.mg_of X G a11
  have FEvNote := fun_mk (st := sEvNote) l12 c12 k12
  have bEvNote := FEvNote.binds (ps := ["machine", "body", "words"]) fun _ _ _ _ _ _ us hl => match us, hl with | [_, _, _], _ => rfl
  have mEvNote := PySem.W.mg_of X G a12
  have FWordsOf := fun_mk (st := sWordsOf) l13 c13 k13
  have bWordsOf := FWordsOf.binds (ps := ["operands", "words"]) fun _ _ _ _ _ _ us hl => match us, hl with | [_, _], _ => rfl
  have mWordsOf := PySem.W.mg_of X G a13
  have FSizeM := fun_mk (st := sSizeM) l14 c14 k14
  have bSizeM := FSizeM.binds (ps := ["member"]) fun _ _ _ _ _ _ us hl => match us, hl with | [_], _ => rfl
  have mSizeM := PySem.W.mg_of X G a14
  have FMemCell := fun_mk (st := sMemCell) l15 c15 k15
  have bMemCell := FMemCell.binds (ps := ["machine", "member", "words"]) fun _ _ _ _ _ _ us hl => match us, hl with | [_, _, _], _ => rfl
  have mMemCell := PySem.W.mg_of X G a15
  have FPrimRes := fun_mk (st := sPrimRes) l16 c16 k16
  have bPrimRes := FPrimRes.binds (ps := ["sign", "one", "other"]) fun _ _ _ _ _ _ us hl => match us, hl with | [_, _, _], _ => rfl
  have mPrimRes := PySem.W.mg_of X G a16
  have FHolds := fun_mk (st := sHolds) l17 c17 k17
  have bHolds := FHolds.binds (ps := ["sign", "one", "other"]) fun _ _ _ _ _ _ us hl => match us, hl with | [_, _, _], _ => rfl
  have mHolds := PySem.W.mg_of X G a17
  have FWorked := fun_mk (st := sWorked) l18 c18 k18
  have bWorked := FWorked.binds (ps := ["sign", "one", "other"]) fun _ _ _ _ _ _ us hl => match us, hl with | [_, _, _], _ => rfl
  have mWorked := PySem.W.mg_of X G a18
  have FSizeMt := fun_mk (st := sSizeMt) l19 c19 k19
  have bSizeMt := FSizeMt.binds (ps := ["machine", "frame", "word"]) fun _ _ _ _ _ _ us hl => match us, hl with | [_, _, _], _ => rfl
  have mSizeMt := PySem.W.mg_of X G a19
  have FMeet := fun_mk (st := sMeet) l20 c20 k20
  have bMeet := FMeet.binds (ps := ["machine", "frame", "word"]) fun _ _ _ _ _ _ us hl => match us, hl with | [_, _, _], _ => rfl
  have mMeet := PySem.W.mg_of X G a20
  have FCellOf := fun_mk (st := sCellOf) l21 c21 k21
  have bCellOf := FCellOf.binds (ps := ["machine", "word"]) fun _ _ _ _ _ _ us hl => match us, hl with | [_, _], _ => rfl
  have mCellOf := PySem.W.mg_of X G a21
  have FIsPart := fun_mk (st := sIsPart) l22 c22 k22
  have bIsPart := FIsPart.binds (ps := ["machine", "cell", "frame"]) fun _ _ _ _ _ _ us hl => match us, hl with | [_, _, _], _ => rfl
  have mIsPart := PySem.W.mg_of X G a22
  have FFault := fun_mk (st := sFault) l23 c23 k23
  have bFault := FFault.binds (ps := ["machine", "text"]) fun _ _ _ _ _ _ us hl => match us, hl with | [_, _], _ => rfl
  have mFault := PySem.W.mg_of X G a23
  have FMtShow := fun_mk (st := sMtShow) l24 c24 k24
  have bMtShow := FMtShow.binds (ps := ["machine", "frame", "word"]) fun _ _ _ _ _ _ us hl => match us, hl with | [_, _, _], _ => rfl
  have mMtShow := PySem.W.mg_of X G a24
  have FMtHead := fun_mk (st := sMtHead) l25 c25 k25
  have bMtHead := FMtHead.binds (ps := ["machine", "frame", "word"]) fun _ _ _ _ _ _ us hl => match us, hl with | [_, _, _], _ => rfl
  have mMtHead := PySem.W.mg_of X G a25
  have FMtUpd := fun_mk (st := sMtUpd) l26 c26 k26
  have bMtUpd := FMtUpd.binds (ps := ["machine", "frame", "word"]) fun _ _ _ _ _ _ us hl => match us, hl with | [_, _, _], _ => rfl
  have mMtUpd := PySem.W.mg_of X G a26
  have FMtApply := fun_mk (st := sMtApply) l27 c27 k27
  have bMtApply := FMtApply.binds (ps := ["machine", "frame", "word"]) fun _ _ _ _ _ _ us hl => match us, hl with | [_, _, _], _ => rfl
  have mMtApply := PySem.W.mg_of X G a27
  have FMtCase := fun_mk (st := sMtCase) l28 c28 k28
  have bMtCase := FMtCase.binds (ps := ["machine", "frame", "word"]) fun _ _ _ _ _ _ us hl => match us, hl with | [_, _, _], _ => rfl
  have mMtCase := PySem.W.mg_of X G a28
  have FMtPick := fun_mk (st := sMtPick) l29 c29 k29
  have bMtPick := FMtPick.binds (ps := ["machine", "frame", "word"]) fun _ _ _ _ _ _ us hl => match us, hl with | [_, _, _], _ => rfl
  have mMtPick := PySem.W.mg_of X G a29
  have FChDef := fun_mk (st := sChDef) l30 c30 k30
  have bChDef := FChDef.binds (ps := ["machine", "default", "words", "word"]) fun _ _ _ _ _ _ us hl => match us, hl with | [_, _, _, _], _ => rfl
  have mChDef := PySem.W.mg_of X G a30
  have FMtSeq := fun_mk (st := sMtSeq) l31 c31 k31
  have bMtSeq := FMtSeq.binds (ps := ["machine", "frame", "word"]) fun _ _ _ _ _ _ us hl => match us, hl with | [_, _, _], _ => rfl
  have mMtSeq := PySem.W.mg_of X G a31
  have FMtRight := fun_mk (st := sMtRight) l32 c32 k32
  have bMtRight := FMtRight.binds (ps := ["machine", "frame", "word"]) fun _ _ _ _ _ _ us hl => match us, hl with | [_, _, _], _ => rfl
  have mMtRight := PySem.W.mg_of X G a32
  have FMtPrim := fun_mk (st := sMtPrim) l33 c33 k33
  have bMtPrim := FMtPrim.binds (ps := ["machine", "frame", "word"]) fun _ _ _ _ _ _ us hl => match us, hl with | [_, _, _], _ => rfl
  have mMtPrim := PySem.W.mg_of X G a33
  have FSizeN := fun_mk (st := sSizeN) l34 c34 k34
  have bSizeN := FSizeN.binds (ps := ["machine"]) fun _ _ _ _ _ _ us hl => match us, hl with | [_], _ => rfl
  have mSizeN := PySem.W.mg_of X G a34
  have FRunCode := fun_mk (st := sRunCode) l35 c35 k35
  have bRunCode := FRunCode.binds (ps := ["program", "room", "schedule", "steps"]) fun _ _ _ _ _ _ us hl => match us, hl with | [_, _, _, _], _ => rfl
  have mRunCode := PySem.W.mg_of X G a35
  have FDraws := fun_mk (st := sDraws) l36 c36 k36
  have bDraws := FDraws.binds (ps := ["script", "many"]) fun _ _ _ _ _ _ us hl => match us, hl with | [_, _], _ => rfl
  have mDraws := PySem.W.mg_of X G a36
  have FNext := fun_mk (st := sNext) l37 c37 k37
  have bNext := FNext.binds (ps := ["w", "many"]) fun _ _ _ _ _ _ us hl => match us, hl with | [_, _], _ => rfl
  have mNext := PySem.W.mg_of X G a37
  have FLNum := fun_mk (st := sLNum) l38 c38 k38
  have bLNum := FLNum.binds (ps := ["w"]) fun _ _ _ _ _ _ us hl => match us, hl with | [_], _ => rfl
  have mLNum := PySem.W.mg_of X G a38
  have FLTerm := fun_mk (st := sLTerm) l39 c39 k39
  have bLTerm := FLTerm.binds (ps := ["sign", "left", "right"]) fun _ _ _ _ _ _ us hl => match us, hl with | [_, _, _], _ => rfl
  have mLTerm := PySem.W.mg_of X G a39
  have FLRes := fun_mk (st := sLRes) l40 c40 k40
  have bLRes := FLRes.binds (ps := ["sign", "left", "right"]) fun _ _ _ _ _ _ us hl => match us, hl with | [_, _, _], _ => rfl
  have mLRes := PySem.W.mg_of X G a40
  have FLaw := fun_mk (st := sLaw) l41 c41 k41
  have bLaw := FLaw.binds (ps := ["script"]) fun _ _ _ _ _ _ us hl => match us, hl with | [_], _ => rfl
  have mLaw := PySem.W.mg_of X G a41
  refine ⟨PySem.W.fnOf "law" "law" (defArgs sLaw) (defBody sLaw) (defScope sLaw) .none kV41 dc41 pm41 an41 cd41 ct41, fun s v => .of_eq rfl, fun base _ _ => ?_⟩
  have FMInit := fun_mk (st := sMInit) mlMInit mcMInit mkMInit
  have bMInit := FMInit.binds (ps := ["self", "program", "room"]) fun _ _ _ _ _ _ us hl => match us, hl with | [_, _, _], _ => rfl
  have eMInit : Meth K CM "__init__" gMInit := ⟨maMInit, miMInit, mkMInit⟩
  have FStep := fun_mk (st := sStep) mlStep mcStep mkStep
  have bStep := FStep.binds (ps := ["self"]) fun _ _ _ _ _ _ us hl => match us, hl with | [_], _ => rfl
  have eStep : Meth K CM "step" gStep := ⟨maStep, miStep, mkStep⟩
  have FCollect := fun_mk (st := sCollect) mlCollect mcCollect mkCollect
  have bCollect := FCollect.binds (ps := ["self"]) fun _ _ _ _ _ _ us hl => match us, hl with | [_], _ => rfl
  have eCollect : Meth K CM "collect" gCollect := ⟨maCollect, miCollect, mkCollect⟩
  have FHasRoom := fun_mk (st := sHasRoom) mlHasRoom mcHasRoom mkHasRoom
  have bHasRoom := FHasRoom.binds (ps := ["self", "size"]) fun _ _ _ _ _ _ us hl => match us, hl with | [_, _], _ => rfl
  have eHasRoom : Meth K CM "has_room" gHasRoom := ⟨maHasRoom, miHasRoom, mkHasRoom⟩
  have FHInit := fun_mk (st := sHInit) mlHInit mcHInit mkHInit
  have bHInit := FHInit.binds (ps := ["self", "room"]) fun _ _ _ _ _ _ us hl => match us, hl with | [_, _], _ => rfl
  have eHInit : Meth K CH "__init__" gHInit := ⟨maHInit, miHInit, mkHInit⟩
  have FMake := fun_mk (st := sMake) mlMake mcMake mkMake
  have bMake := FMake.binds (ps := ["self", "cell"]) fun _ _ _ _ _ _ us hl => match us, hl with | [_, _], _ => rfl
  have eMake : Meth K CH "make" gMake := ⟨maMake, miMake, mkMake⟩
  have FCell := fun_mk (st := sCell) mlCell mcCell mkCell
  have bCell := FCell.binds (ps := ["self", "address"]) fun _ _ _ _ _ _ us hl => match us, hl with | [_, _], _ => rfl
  have eCell : Meth K CH "cell" gCell := ⟨maCell, miCell, mkCell⟩
  have FPut := fun_mk (st := sPut) mlPut mcPut mkPut
  have bPut := FPut.binds (ps := ["self", "address", "cell"]) fun _ _ _ _ _ _ us hl => match us, hl with | [_, _, _], _ => rfl
  have ePut : Meth K CH "put" gPut := ⟨maPut, miPut, mkPut⟩
  have FFits := fun_mk (st := sFits) mlFits mcFits mkFits
  have bFits := FFits.binds (ps := ["self", "size"]) fun _ _ _ _ _ _ us hl => match us, hl with | [_, _], _ => rfl
  have eFits : Meth K CH "fits" gFits := ⟨maFits, miFits, mkFits⟩
  have FStopped := fun_mk (st := sStopped) mlStopped mcStopped mkStopped
  have bStopped := FStopped.binds (ps := ["self"]) fun _ _ _ _ _ _ us hl => match us, hl with | [_], _ => rfl
  have TM : TxtMk K CM := ⟨⟨pgM, hdM, poM, saM⟩, noM0, noM1, noM2, noM3, noM4, noM5, noM6, noM7⟩
  have TH : TxtH K CH := ⟨⟨pgH, hdH, poH, saH⟩, noH0, noH1, noH2, noH3⟩
  have CSize := c_size (P := l.prog) (w := w) (base := base) ⟨nlen, nmax, ⟨_, PySem.W.mg_of X G cst2, _, rfl⟩⟩ FSize bSize mSize
  have CMake := c_make (P := l.prog) (w := w) (base := base) (mg := mg) TH CSize eMake FMake bMake
  have CCell := c_cell (P := l.prog) (w := w) (base := base) (mg := mg) TH eCell FCell bCell
  have CPut := c_put (P := l.prog) (w := w) (base := base) (mg := mg) TH CSize ePut FPut bPut
  have CFits := c_fits (P := l.prog) (w := w) (base := base) (mg := mg) TH eFits FFits bFits
  have TE : TxtEv mg := ⟨nlen, ntuple, nsum, nrange⟩
  have CWordOf := c_wordof (P := l.prog) (w := w) (base := base)  FWordOf bWordOf mWordOf
  have CWordsOf := c_wordsof (P := l.prog) (w := w) (base := base) TE CWordOf FWordsOf bWordsOf mWordsOf
  have CEnter := c_enter (P := l.prog) (w := w) (base := base) TM TH CCell CPut FEnter bEnter mEnter
  have CSizeM := c_sizem (P := l.prog) (w := w) (base := base) CSize FSizeM bSizeM mSizeM
  have CSizeE := c_sizee (P := l.prog) (w := w) (base := base) TE CSize CSizeM FSizeE bSizeE mSizeE
  have CMemCell := c_memcell (CH := CH) (P := l.prog) (w := w) (base := base) TM CWordsOf FMemCell bMemCell mMemCell
  have CEvGive := c_evaluate_give (CH := CH) (P := l.prog) (w := w) (base := base) TM CWordOf FEvGive bEvGive mEvGive
  have CEvCall := c_evaluate_call (CH := CH) (P := l.prog) (w := w) (base := base) TM CWordOf CWordsOf FEvCall bEvCall mEvCall
  have CEvCon := c_evaluate_con (P := l.prog) (w := w) (base := base) TM CWordsOf CMake FEvCon bEvCon mEvCon
  have CEvPrim := c_evaluate_prim (CH := CH) (P := l.prog) (w := w) (base := base) TM CWordOf FEvPrim bEvPrim mEvPrim
  have CEvSeq := c_evaluate_seq (CH := CH) (P := l.prog) (w := w) (base := base) TM FEvSeq bEvSeq mEvSeq
  have CEvChoice := c_evaluate_choice (CH := CH) (P := l.prog) (w := w) (base := base) TM FEvChoice bEvChoice mEvChoice
  have CEvNote := c_evaluate_note (CH := CH) (P := l.prog) (w := w) (base := base) TM FEvNote bEvNote mEvNote
  have CEvLet := c_evaluate_let (P := l.prog) (w := w) (base := base) TM TH TE CMake CMemCell FEvLet bEvLet mEvLet
  have TP : TxtPr K mg aBZ aOV := ⟨⟨_, PySem.W.mg_of X G gtBZ, rfl⟩, written_tup (by decide) ltBZ ctBZ vtBZ, ⟨_, PySem.W.mg_of X G gtOV, rfl⟩, written_tup (by decide) ltOV ctOV vtOV, ⟨_, PySem.W.mg_of X G cst1, _, rfl⟩⟩
  have CHolds := c_holdsT (P := l.prog) (w := w) (base := base)  FHolds bHolds mHolds
  have CWorked := c_worked (P := l.prog) (w := w) (base := base)  FWorked bWorked mWorked
  have CPrimRes := c_primres (P := l.prog) (w := w) (base := base) TP CHolds CWorked FPrimRes bPrimRes mPrimRes
  have TT : TxtMt K mg CM aST := ⟨TM, nlen, ⟨_, PySem.W.mg_of X G gtST, rfl⟩, written_tup (by decide) ltST ctST vtST⟩
  have TZ : TxtSz K mg CM aST aCO := ⟨TT, ⟨_, PySem.W.mg_of X G gtCO, rfl⟩, written_tup (by decide) ltCO ctCO vtCO⟩
  have CCellOf := c_cellof (P := l.prog) (w := w) (base := base) TM CCell FCellOf bCellOf mCellOf
  have CIsPart := c_ispart (CH := CH) (P := l.prog) (w := w) (base := base) TT FIsPart bIsPart mIsPart
  have CFault := c_fault (CH := CH) (P := l.prog) (w := w) (base := base) TM FFault bFault mFault
  have CChDef := c_chdef (P := l.prog) (w := w) (base := base) TM CFault FChDef bChDef mChDef
  have CMtShow := c_meet_show (P := l.prog) (w := w) (base := base) TT CCellOf FMtShow bMtShow mMtShow
  have CMtHead := c_meet_head (P := l.prog) (w := w) (base := base) TT CCellOf FMtHead bMtHead mMtHead
  have CMtUpd := c_meet_update (P := l.prog) (w := w) (base := base) TT CCellOf CPut FMtUpd bMtUpd mMtUpd
  have CMtSeq := c_meet_seq (P := l.prog) (w := w) (base := base) TT CCellOf FMtSeq bMtSeq mMtSeq
  have CMtRight := c_meet_right (P := l.prog) (w := w) (base := base) TT CCellOf CWordOf FMtRight bMtRight mMtRight
  have CMtPrim := c_meet_prim (P := l.prog) (w := w) (base := base) TT CCellOf CMake CFault CPrimRes FMtPrim bMtPrim mMtPrim
  have CMtApply := c_meet_apply (P := l.prog) (w := w) (base := base) TT CCellOf CMake CIsPart FMtApply bMtApply mMtApply
  have CMtCase := c_meet_case (P := l.prog) (w := w) (base := base) TT CCellOf CChDef FMtCase bMtCase mMtCase
  have CMtPick := c_meet_pick (P := l.prog) (w := w) (base := base) TT CCellOf CChDef FMtPick bMtPick mMtPick
  have CSizeMt := c_sizemt (P := l.prog) (w := w) (base := base) TZ CCellOf CSize CIsPart FSizeMt bSizeMt mSizeMt
  have ndE2 : (([(f5, spEv K CM CH .give), (f6, spEv K CM CH .call), (f7, spEv K CM CH .con), (f8, spEv K CM CH .prim), (f9, spEv K CM CH .lt), (f10, spEv K CM CH .seq), (f11, spEvC K CM CH), (f12, spEv K CM CH .note)] : List (Addr × Sp)).map (·.1)).Nodup := ndE
  have mE : ∀ z : Wd, ∃ f sp, PySem.W.nsIn K aEV z.str = some (some (.ref f)) ∧ tab [(f5, spEv K CM CH .give), (f6, spEv K CM CH .call), (f7, spEv K CM CH .con), (f8, spEv K CM CH .prim), (f9, spEv K CM CH .lt), (f10, spEv K CM CH .seq), (f11, spEvC K CM CH), (f12, spEv K CM CH .note)] f = some sp ∧ ∀ vs H Q E, spEv K CM CH z vs H Q E → sp vs H Q E := fun z => by
    cases z with
    | give => exact ⟨_, _, wEVgive, tab_mem ndE2 (.head _), fun vs H Q E h => h⟩
    | call => exact ⟨_, _, wEVcall, tab_mem ndE2 (.tail _ (.head _)), fun vs H Q E h => h⟩
    | con => exact ⟨_, _, wEVcon, tab_mem ndE2 (.tail _ (.tail _ (.head _))), fun vs H Q E h => h⟩
    | prim => exact ⟨_, _, wEVprim, tab_mem ndE2 (.tail _ (.tail _ (.tail _ (.head _)))), fun vs H Q E h => h⟩
    | lt => exact ⟨_, _, wEVlet, tab_mem ndE2 (.tail _ (.tail _ (.tail _ (.tail _ (.head _))))), fun vs H Q E h => h⟩
    | seq => exact ⟨_, _, wEVseq, tab_mem ndE2 (.tail _ (.tail _ (.tail _ (.tail _ (.tail _ (.head _)))))), fun vs H Q E h => h⟩
    | note => exact ⟨_, _, wEVnote, tab_mem ndE2 (.tail _ (.tail _ (.tail _ (.tail _ (.tail _ (.tail _ (.tail _ (.head _)))))))), fun vs H Q E h => h⟩
    | ch c =>
      cases c
      · exact ⟨_, _, wEVpick, tab_mem ndE2 (.tail _ (.tail _ (.tail _ (.tail _ (.tail _ (.tail _ (.head _))))))), fun vs H Q E h => ⟨_, h⟩⟩
      · exact ⟨_, _, wEVcase, tab_mem ndE2 (.tail _ (.tail _ (.tail _ (.tail _ (.tail _ (.tail _ (.head _))))))), fun vs H Q E h => ⟨_, h⟩⟩
  have hE : ∀ f sp, tab [(f5, spEv K CM CH .give), (f6, spEv K CM CH .call), (f7, spEv K CM CH .con), (f8, spEv K CM CH .prim), (f9, spEv K CM CH .lt), (f10, spEv K CM CH .seq), (f11, spEvC K CM CH), (f12, spEv K CM CH .note)] f = some sp → Held l.prog w K mg base 4 f sp := fun f sp h => by
    have h := tab_of h
    rcases List.mem_cons.mp h with e | h
    · cases e
      exact held_up (held_of CEvGive mEvGive) (by decide)
    rcases List.mem_cons.mp h with e | h
    · cases e
      exact held_up (held_of CEvCall mEvCall) (by decide)
    rcases List.mem_cons.mp h with e | h
    · cases e
      exact held_up (held_of CEvCon mEvCon) (by decide)
    rcases List.mem_cons.mp h with e | h
    · cases e
      exact held_up (held_of CEvPrim mEvPrim) (by decide)
    rcases List.mem_cons.mp h with e | h
    · cases e
      exact held_up (held_of CEvLet mEvLet) (by decide)
    rcases List.mem_cons.mp h with e | h
    · cases e
      exact held_up (held_of CEvSeq mEvSeq) (by decide)
    rcases List.mem_cons.mp h with e | h
    · cases e
      exact held_up (held_of CEvChoice mEvChoice) (by decide)
    rcases List.mem_cons.mp h with e | h
    · cases e
      exact held_up (held_of CEvNote mEvNote) (by decide)
    cases h
  have ndM2 : (([(f24, spMt K CM CH fun f => f = .show), (f25, spMt K CM CH fun f => ∃ r, f = .head r), (f26, spMt K CM CH fun f => ∃ a, f = .upd a), (f27, spMt K CM CH fun f => ∃ ws, f = .apply ws), (f28, spMt K CM CH fun f => ∃ rows d ws, f = .ch true rows d ws), (f29, spMt K CM CH fun f => ∃ rows d ws, f = .ch false rows d ws), (f31, spMt K CM CH fun f => ∃ b ws, f = .seq b ws), (f32, spMt K CM CH fun f => ∃ s o ws, f = .right s o ws), (f33, spMt K CM CH fun f => ∃ s i, f = .prim s i)] : List (Addr × Sp)).map (·.1)).Nodup := ndM
  have mM : ∀ g : Fm, ∃ (f : Addr) (kind : Fm → Prop), PySem.W.nsIn K aMT g.word = some (some (.ref f)) ∧ tab [(f24, spMt K CM CH fun f => f = .show), (f25, spMt K CM CH fun f => ∃ r, f = .head r), (f26, spMt K CM CH fun f => ∃ a, f = .upd a), (f27, spMt K CM CH fun f => ∃ ws, f = .apply ws), (f28, spMt K CM CH fun f => ∃ rows d ws, f = .ch true rows d ws), (f29, spMt K CM CH fun f => ∃ rows d ws, f = .ch false rows d ws), (f31, spMt K CM CH fun f => ∃ b ws, f = .seq b ws), (f32, spMt K CM CH fun f => ∃ s o ws, f = .right s o ws), (f33, spMt K CM CH fun f => ∃ s i, f = .prim s i)] f = some (spMt K CM CH kind) ∧ kind g := fun g => by
    cases g with
    | «show» => exact ⟨_, _, wMTshow, tab_mem ndM2 (.head _), rfl⟩
    | head r => exact ⟨_, _, wMThead, tab_mem ndM2 (.tail _ (.head _)), ⟨r, rfl⟩⟩
    | upd r => exact ⟨_, _, wMTupdate, tab_mem ndM2 (.tail _ (.tail _ (.head _))), ⟨r, rfl⟩⟩
    | apply r => exact ⟨_, _, wMTapply, tab_mem ndM2 (.tail _ (.tail _ (.tail _ (.head _)))), ⟨r, rfl⟩⟩
    | seq r s => exact ⟨_, _, wMTseq, tab_mem ndM2 (.tail _ (.tail _ (.tail _ (.tail _ (.tail _ (.tail _ (.head _))))))), ⟨r, s, rfl⟩⟩
    | right r s t => exact ⟨_, _, wMTright, tab_mem ndM2 (.tail _ (.tail _ (.tail _ (.tail _ (.tail _ (.tail _ (.tail _ (.head _)))))))), ⟨r, s, t, rfl⟩⟩
    | prim r s => exact ⟨_, _, wMTprim, tab_mem ndM2 (.tail _ (.tail _ (.tail _ (.tail _ (.tail _ (.tail _ (.tail _ (.tail _ (.head _))))))))), ⟨r, s, rfl⟩⟩
    | ch c r s t =>
      cases c
      · exact ⟨_, _, wMTpick, tab_mem ndM2 (.tail _ (.tail _ (.tail _ (.tail _ (.tail _ (.head _)))))), ⟨r, s, t, rfl⟩⟩
      · exact ⟨_, _, wMTcase, tab_mem ndM2 (.tail _ (.tail _ (.tail _ (.tail _ (.head _))))), ⟨r, s, t, rfl⟩⟩
  have hM : ∀ f sp, tab [(f24, spMt K CM CH fun f => f = .show), (f25, spMt K CM CH fun f => ∃ r, f = .head r), (f26, spMt K CM CH fun f => ∃ a, f = .upd a), (f27, spMt K CM CH fun f => ∃ ws, f = .apply ws), (f28, spMt K CM CH fun f => ∃ rows d ws, f = .ch true rows d ws), (f29, spMt K CM CH fun f => ∃ rows d ws, f = .ch false rows d ws), (f31, spMt K CM CH fun f => ∃ b ws, f = .seq b ws), (f32, spMt K CM CH fun f => ∃ s o ws, f = .right s o ws), (f33, spMt K CM CH fun f => ∃ s i, f = .prim s i)] f = some sp → Held l.prog w K mg base 4 f sp := fun f sp h => by
    have h := tab_of h
    rcases List.mem_cons.mp h with e | h
    · cases e
      exact held_up (held_of CMtShow mMtShow) (by decide)
    rcases List.mem_cons.mp h with e | h
    · cases e
      exact held_up (held_of CMtHead mMtHead) (by decide)
    rcases List.mem_cons.mp h with e | h
    · cases e
      exact held_up (held_of CMtUpd mMtUpd) (by decide)
    rcases List.mem_cons.mp h with e | h
    · cases e
      exact held_up (held_of CMtApply mMtApply) (by decide)
    rcases List.mem_cons.mp h with e | h
    · cases e
      exact held_up (held_of CMtCase mMtCase) (by decide)
    rcases List.mem_cons.mp h with e | h
    · cases e
      exact held_up (held_of CMtPick mMtPick) (by decide)
    rcases List.mem_cons.mp h with e | h
    · cases e
      exact held_up (held_of CMtSeq mMtSeq) (by decide)
    rcases List.mem_cons.mp h with e | h
    · cases e
      exact held_up (held_of CMtRight mMtRight) (by decide)
    rcases List.mem_cons.mp h with e | h
    · cases e
      exact held_up (held_of CMtPrim mMtPrim) (by decide)
    cases h
  have TGo : TxtGo l.prog w K mg base CM CH aEV aMT aSP esEV esMT nEV nMT _ _ := ⟨TM, ⟨ldEV, kdEV, sdEV⟩, ⟨_, PySem.W.mg_of X G gdEV, rfl⟩, mE, hE, ⟨ldMT, kdMT, sdMT⟩, ⟨_, PySem.W.mg_of X G gdMT, rfl⟩, mM, hM⟩
  have CEvaluate := c_evaluate (P := l.prog) (w := w) (base := base) TGo FEvaluate bEvaluate mEvaluate
  have CMeet := c_meet (P := l.prog) (w := w) (base := base) TGo FMeet bMeet mMeet
  have CSizeN := c_sizen (P := l.prog) (w := w) (base := base) TM CSizeE CSizeMt FSizeN bSizeN mSizeN
  have TSp : TxtSp K mg CM aSP := ⟨TM, ⟨_, PySem.W.mg_of X G gtSP, rfl⟩, written_tup (by decide) ltSP ctSP vtSP⟩
  have CStopped := c_stopped (CH := CH) (P := l.prog) (w := w) (base := base) TSp FStopped
  have CCollect : C8.Met l.prog w K mg base 1 CM "collect" (fun _ _ _ _ => False) [] := met_none TM.cl eCollect FCollect bCollect fun _ _ _ _ h => h
  have CHasRoom := c_hasroom (P := l.prog) (w := w) (base := base) (mg := mg) TM CFits CCollect eHasRoom FHasRoom bHasRoom
  have TSt : TxtStep l.prog w K mg base CM CH pStop gStopped _ := ⟨TM, ⟨pa1, pa2, pa3, ⟨_, pa4⟩⟩, CStopped, bStopped⟩
  have CStep := c_step (P := l.prog) (w := w) (base := base) (mg := mg) TSt CSizeN CHasRoom CEnter CEvaluate CMeet eStep FStep bStep
  have CHeap := c_hinit (P := l.prog) (w := w) (base := base) (mg := mg) TH ⟨mkH, maHInit, miHInit, kcH⟩ (PySem.W.mg_of X G aH) FHInit bHInit
  have CMachine := c_minit (P := l.prog) (w := w) (base := base) (mg := mg) ⟨TM, nlen, nenumerate⟩ TH CHeap CMake ⟨mkM, maMInit, miMInit, kcM⟩ (PySem.W.mg_of X G aM) FMInit bMInit
  have CRunCode := c_runcode (P := l.prog) (w := w) (base := base) ⟨TSt, nrange, nlen, ntuple⟩ CMachine CCollect CStep FRunCode bRunCode mRunCode
  have TD : TxtD mg := ⟨nlen, nint, nrange, nabs⟩
  have CDraws := c_draws (P := l.prog) (w := w) (base := base) TD FDraws bDraws mDraws
  have CNext := c_next (P := l.prog) (w := w) (base := base) TD FNext bNext mNext
  have CLNum := c_lnum (P := l.prog) (w := w) (base := base) CNext FLNum bLNum mLNum
  have CLTerm := c_lterm (P := l.prog) (w := w) (base := base)  FLTerm bLTerm mLTerm
  have CLRes := c_lres (P := l.prog) (w := w) (base := base) TD FLRes bLRes mLRes
  exact c_law ⟨nrange, nlen, ntuple⟩ CDraws CNext CLNum CLTerm CLRes CRunCode FLaw
theorem walk {l : PySem.W.OpenLaw} {q : Program} {loose : List Str} {XP : (Str → Option Value) → Heap → Prop} {YP : World → Heap → Prop} {d : DefRec} {K : Params → PySem.W.Frag} (hn : l.most = some 63) (hdf : d.params.defaults = [])
    (hY : ∀ (w : World) (h : Heap), YP w h → (K w.params).In h)
    (F : ∀ (w : World) (mg : Str → Option Value) (fa : Addr) (h : Heap), (K w.params).In h → h.Ns mainGlobals mg → mg d.name = some (.ref fa) →
      ∃ fd : FuncData, (∀ (s : Shared) (u : Value), BindsTo s fd ⟨[u], []⟩ [("script", u)]) ∧ ∀ base : Heap, (K w.params).In base → base.Ns mainGlobals mg → FnOk l.prog w (K w.params) mg base CX0 8 fa fd ["script"] (spLaw (K w.params))) :
    PySem.W.WalkO q loose XP YP l.row.toRowW d [] (fun f vs => PySem.call f vs) :=
  L2.walk_of (n := 63) (k := 8) (x := "script") (CX := fun _ => CX0) (sp := fun w => spLaw (K w.params)) hn (by decide) hdf ⟨rfl, by decide, by decide⟩ hY F (fun _ _ a ns hl _ hS => ⟨a, ns, rfl, hS, hl, fun _ => rfl⟩) fun _ _ _ _ _ z => z
end Toy
open PySem PySem.W PyProof.Rows
set_option maxRecDepth 100000 in
set_option maxHeartbeats 0 in
theorem PySem.Challenge.cw_needonce_k66_numbers_that_are_shown_holds : PySem.Challenge.rw_needonce_k66_numbers_that_are_shown.Holds := by
  w_on; o_law; k_head; (case hw => w_witness2)
  k_fill
  refine Toy.walk (l := PySem.Challenge.rw_needonce_k66_numbers_that_are_shown) rfl rfl (fun w h Y => PySem.W.kIn_of Y) ?F
  case F =>
    intro w mg fa h KX G hmg
    refine' Toy.all_mk KX G hmg ?a0 ?l0 ?c0 ?k0 ?a1 ?l1 ?c1 ?k1 ?a2 ?l2 ?c2 ?k2 ?a3 ?l3 ?c3 ?k3 ?a4 ?l4 ?c4 ?k4 ?a5 ?l5 ?c5 ?k5 ?a6 ?l6 ?c6 ?k6 ?a7 ?l7 ?c7 ?k7 ?a8 ?l8 ?c8 ?k8 ?a9 ?l9 ?c9 ?k9 ?a10 ?l10 ?c10 ?k10 ?a11 ?l11 ?c11 ?k11 ?a12 ?l12 ?c12 ?k12 ?a13 ?l13 ?c13 ?k13 ?a14 ?l14 ?c14 ?k14 ?a15 ?l15 ?c15 ?k15 ?a16 ?l16 ?c16 ?k16 ?a17 ?l17 ?c17 ?k17 ?a18 ?l18 ?c18 ?k18 ?a19 ?l19 ?c19 ?k19 ?a20 ?l20 ?c20 ?k20 ?a21 ?l21 ?c21 ?k21 ?a22 ?l22 ?c22 ?k22 ?a23 ?l23 ?c23 ?k23 ?a24 ?l24 ?c24 ?k24 ?a25 ?l25 ?c25 ?k25 ?a26 ?l26 ?c26 ?k26 ?a27 ?l27 ?c27 ?k27 ?a28 ?l28 ?c28 ?k28 ?a29 ?l29 ?c29 ?k29 ?a30 ?l30 ?c30 ?k30 ?a31 ?l31 ?c31 ?k31 ?a32 ?l32 ?c32 ?k32 ?a33 ?l33 ?c33 ?k33 ?a34 ?l34 ?c34 ?k34 ?a35 ?l35 ?c35 ?k35 ?a36 ?l36 ?c36 ?k36 ?a37 ?l37 ?c37 ?k37 ?a38 ?l38 ?c38 ?k38 ?a39 ?l39 ?c39 ?k39 ?a40 ?l40 ?c40 ?k40 ?a41 ?l41 ?c41 ?k41 ?cst1 ?cst2 ?gtST ?ltST ?ctST ?vtST ?gtCO ?ltCO ?ctCO ?vtCO ?gtSP ?ltSP ?ctSP ?vtSP ?gtBZ ?ltBZ ?ctBZ ?vtBZ ?gtOV ?ltOV ?ctOV ?vtOV ?gdEV ?ldEV ?kdEV ?sdEV ?wEVgive ?wEVcall ?wEVcon ?wEVprim ?wEVlet ?wEVseq ?wEVcase ?wEVpick ?wEVnote ?gdMT ?ldMT ?kdMT ?sdMT ?wMTshow ?wMThead ?wMTupdate ?wMTapply ?wMTcase ?wMTpick ?wMTseq ?wMTright ?wMTprim ?ndE ?ndM ?aM ?pgM ?hdM ?poM ?saM ?mkM ?kcM ?noM0 ?noM1 ?noM2 ?noM3 ?noM4 ?noM5 ?noM6 ?noM7 ?maMInit ?miMInit ?mlMInit ?mcMInit ?mkMInit ?maStep ?miStep ?mlStep ?mcStep ?mkStep ?maCollect ?miCollect ?mlCollect ?mcCollect ?mkCollect ?maHasRoom ?miHasRoom ?mlHasRoom ?mcHasRoom ?mkHasRoom ?aH ?pgH ?hdH ?poH ?saH ?mkH ?kcH ?noH0 ?noH1 ?noH2 ?noH3 ?maHInit ?miHInit ?mlHInit ?mcHInit ?mkHInit ?maMake ?miMake ?mlMake ?mcMake ?mkMake ?maCell ?miCell ?mlCell ?mcCell ?mkCell ?maPut ?miPut ?mlPut ?mcPut ?mkPut ?maFits ?miFits ?mlFits ?mcFits ?mkFits ?pa1 ?pa2 ?pa3 ?pa4 ?mlStopped ?mcStopped ?mkStopped ?zlen ?zint ?zrange ?zabs ?ztuple ?zmax ?zsum ?zenumerate
    (case a0 => k_is)
    (case l0 => k_is)
    (case c0 => k_is)
    (case k0 => k_is)
    (case a1 => k_is)
    (case l1 => k_is)
    (case c1 => k_is)
    (case k1 => k_is)
    (case a2 => k_is)
    (case l2 => k_is)
    (case c2 => k_is)
    (case k2 => k_is)
    (case a3 => k_is)
    (case l3 => k_is)
    (case c3 => k_is)
    (case k3 => k_is)
    (case a4 => k_is)
    (case l4 => k_is)
    (case c4 => k_is)
    (case k4 => k_is)
    (case a5 => k_is)
    (case l5 => k_is)
    (case c5 => k_is)
    (case k5 => k_is)
    (case a6 => k_is)
    (case l6 => k_is)
    (case c6 => k_is)
    (case k6 => k_is)
    (case a7 => k_is)
    (case l7 => k_is)
    (case c7 => k_is)
    (case k7 => k_is)
    (case a8 => k_is)
    (case l8 => k_is)
    (case c8 => k_is)
    (case k8 => k_is)
    (case a9 => k_is)
    (case l9 => k_is)
    (case c9 => k_is)
    (case k9 => k_is)
    (case a10 => k_is)
    (case l10 => k_is)
    (case c10 => k_is)
    (case k10 => k_is)
    (case a11 => k_is)
    (case l11 => k_is)
    (case c11 => k_is)
    (case k11 => k_is)
    (case a12 => k_is)
    (case l12 => k_is)
    (case c12 => k_is)
    (case k12 => k_is)
    (case a13 => k_is)
    (case l13 => k_is)
    (case c13 => k_is)
    (case k13 => k_is)
    (case a14 => k_is)
    (case l14 => k_is)
    (case c14 => k_is)
    (case k14 => k_is)
    (case a15 => k_is)
    (case l15 => k_is)
    (case c15 => k_is)
    (case k15 => k_is)
    (case a16 => k_is)
    (case l16 => k_is)
    (case c16 => k_is)
    (case k16 => k_is)
    (case a17 => k_is)
    (case l17 => k_is)
    (case c17 => k_is)
    (case k17 => k_is)
    (case a18 => k_is)
    (case l18 => k_is)
    (case c18 => k_is)
    (case k18 => k_is)
    (case a19 => k_is)
    (case l19 => k_is)
    (case c19 => k_is)
    (case k19 => k_is)
    (case a20 => k_is)
    (case l20 => k_is)
    (case c20 => k_is)
    (case k20 => k_is)
    (case a21 => k_is)
    (case l21 => k_is)
    (case c21 => k_is)
    (case k21 => k_is)
    (case a22 => k_is)
    (case l22 => k_is)
    (case c22 => k_is)
    (case k22 => k_is)
    (case a23 => k_is)
    (case l23 => k_is)
    (case c23 => k_is)
    (case k23 => k_is)
    (case a24 => k_is)
    (case l24 => k_is)
    (case c24 => k_is)
    (case k24 => k_is)
    (case a25 => k_is)
    (case l25 => k_is)
    (case c25 => k_is)
    (case k25 => k_is)
    (case a26 => k_is)
    (case l26 => k_is)
    (case c26 => k_is)
    (case k26 => k_is)
    (case a27 => k_is)
    (case l27 => k_is)
    (case c27 => k_is)
    (case k27 => k_is)
    (case a28 => k_is)
    (case l28 => k_is)
    (case c28 => k_is)
    (case k28 => k_is)
    (case a29 => k_is)
    (case l29 => k_is)
    (case c29 => k_is)
    (case k29 => k_is)
    (case a30 => k_is)
    (case l30 => k_is)
    (case c30 => k_is)
    (case k30 => k_is)
    (case a31 => k_is)
    (case l31 => k_is)
    (case c31 => k_is)
    (case k31 => k_is)
    (case a32 => k_is)
    (case l32 => k_is)
    (case c32 => k_is)
    (case k32 => k_is)
    (case a33 => k_is)
    (case l33 => k_is)
    (case c33 => k_is)
    (case k33 => k_is)
    (case a34 => k_is)
    (case l34 => k_is)
    (case c34 => k_is)
    (case k34 => k_is)
    (case a35 => k_is)
    (case l35 => k_is)
    (case c35 => k_is)
    (case k35 => k_is)
    (case a36 => k_is)
    (case l36 => k_is)
    (case c36 => k_is)
    (case k36 => k_is)
    (case a37 => k_is)
    (case l37 => k_is)
    (case c37 => k_is)
    (case k37 => k_is)
    (case a38 => k_is)
    (case l38 => k_is)
    (case c38 => k_is)
    (case k38 => k_is)
    (case a39 => k_is)
    (case l39 => k_is)
    (case c39 => k_is)
    (case k39 => k_is)
    (case a40 => k_is)
    (case l40 => k_is)
    (case c40 => k_is)
    (case k40 => k_is)
    (case a41 => k_is)
    (case l41 => k_is)
    (case c41 => k_is)
    (case k41 => k_is)
    (case cst1 => k_is)
    (case cst2 => k_is)
    (case gtST => k_is)
    (case ltST => k_is)
    (case ctST => rfl)
    (case vtST => decide +kernel)
    (case gtCO => k_is)
    (case ltCO => k_is)
    (case ctCO => rfl)
    (case vtCO => decide +kernel)
    (case gtSP => k_is)
    (case ltSP => k_is)
    (case ctSP => rfl)
    (case vtSP => decide +kernel)
    (case gtBZ => k_is)
    (case ltBZ => k_is)
    (case ctBZ => rfl)
    (case vtBZ => decide +kernel)
    (case gtOV => k_is)
    (case ltOV => k_is)
    (case ctOV => rfl)
    (case vtOV => decide +kernel)
    (case gdEV => k_is)
    (case ldEV => k_is)
    (case kdEV => exact ⟨⟨_, _, rfl, rfl⟩, ⟨_, _, rfl, rfl⟩, ⟨_, _, rfl, rfl⟩, ⟨_, _, rfl, rfl⟩, ⟨_, _, rfl, rfl⟩, ⟨_, _, rfl, rfl⟩, ⟨_, _, rfl, rfl⟩, ⟨_, _, rfl, rfl⟩, ⟨_, _, rfl, rfl⟩, trivial⟩)
    (case sdEV => rfl)
    (case wEVgive => k_is)
    (case wEVcall => k_is)
    (case wEVcon => k_is)
    (case wEVprim => k_is)
    (case wEVlet => k_is)
    (case wEVseq => k_is)
    (case wEVcase => k_is)
    (case wEVpick => k_is)
    (case wEVnote => k_is)
    (case gdMT => k_is)
    (case ldMT => k_is)
    (case kdMT => exact ⟨⟨_, _, rfl, rfl⟩, ⟨_, _, rfl, rfl⟩, ⟨_, _, rfl, rfl⟩, ⟨_, _, rfl, rfl⟩, ⟨_, _, rfl, rfl⟩, ⟨_, _, rfl, rfl⟩, ⟨_, _, rfl, rfl⟩, ⟨_, _, rfl, rfl⟩, ⟨_, _, rfl, rfl⟩, trivial⟩)
    (case sdMT => rfl)
    (case wMTshow => k_is)
    (case wMThead => k_is)
    (case wMTupdate => k_is)
    (case wMTapply => k_is)
    (case wMTcase => k_is)
    (case wMTpick => k_is)
    (case wMTseq => k_is)
    (case wMTright => k_is)
    (case wMTprim => k_is)
    (case ndE => decide)
    (case ndM => decide)
    (case aM => k_is)
    (case pgM => k_is)
    (case hdM => k_is)
    (case poM => k_is)
    (case saM => k_is)
    (case mkM => k_is)
    (case kcM => k_is)
    (case noM0 => k_is)
    (case noM1 => k_is)
    (case noM2 => k_is)
    (case noM3 => k_is)
    (case noM4 => k_is)
    (case noM5 => k_is)
    (case noM6 => k_is)
    (case noM7 => k_is)
    (case maMInit => k_is)
    (case miMInit => k_is)
    (case mlMInit => k_is)
    (case mcMInit => k_is)
    (case mkMInit => k_is)
    (case maStep => k_is)
    (case miStep => k_is)
    (case mlStep => k_is)
    (case mcStep => k_is)
    (case mkStep => k_is)
    (case maCollect => k_is)
    (case miCollect => k_is)
    (case mlCollect => k_is)
    (case mcCollect => k_is)
    (case mkCollect => k_is)
    (case maHasRoom => k_is)
    (case miHasRoom => k_is)
    (case mlHasRoom => k_is)
    (case mcHasRoom => k_is)
    (case mkHasRoom => k_is)
    (case aH => k_is)
    (case pgH => k_is)
    (case hdH => k_is)
    (case poH => k_is)
    (case saH => k_is)
    (case mkH => k_is)
    (case kcH => k_is)
    (case noH0 => k_is)
    (case noH1 => k_is)
    (case noH2 => k_is)
    (case noH3 => k_is)
    (case maHInit => k_is)
    (case miHInit => k_is)
    (case mlHInit => k_is)
    (case mcHInit => k_is)
    (case mkHInit => k_is)
    (case maMake => k_is)
    (case miMake => k_is)
    (case mlMake => k_is)
    (case mcMake => k_is)
    (case mkMake => k_is)
    (case maCell => k_is)
    (case miCell => k_is)
    (case mlCell => k_is)
    (case mcCell => k_is)
    (case mkCell => k_is)
    (case maPut => k_is)
    (case miPut => k_is)
    (case mlPut => k_is)
    (case mcPut => k_is)
    (case mkPut => k_is)
    (case maFits => k_is)
    (case miFits => k_is)
    (case mlFits => k_is)
    (case mcFits => k_is)
    (case mkFits => k_is)
    (case pa1 => k_is)
    (case pa2 => k_is)
    (case pa3 => k_is)
    (case pa4 => k_is)
    (case mlStopped => k_is)
    (case mcStopped => k_is)
    (case mkStopped => k_is)
    (case zlen => k_is)
    (case zint => k_is)
    (case zrange => k_is)
    (case zabs => k_is)
    (case ztuple => k_is)
    (case zmax => k_is)
    (case zsum => k_is)
    (case zenumerate => k_is)

