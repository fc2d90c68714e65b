import PyProof.Rows.All
import Wide.All
import OpenK.AllK
import Wide.FinOn
import HandS.ForMost
import HandS.Codes
import HandS.IsInst
import HandS.Conv
import HandS.StrMore
import KE.OsScanText
import KE.KStrWords
import KE.KxText
import PySem.Challenge.RW_needonce_k20_free_values
import HandS.TupAny
import HandS.More
import HandS.Star
import HandS.Comp
import PyProof.Rows.SortShellAny
import HandS.TupLe
set_option Elab.async false
set_option maxRecDepth 100000
set_option maxHeartbeats 4000000
/-! Part A: how defs are called, the drawing of numbers from the script. -/
namespace Toy
open PySem L2
open PyProof.Rows (envOfC)
def topS (i : Nat) : Stmt := PySem.Challenge.pw_needonce_k20_free_values.main.body.getD i (.Pass ⟨0, 0, 0, 0⟩)
theorem boot_min : bootBuiltins "min" = some (.builtin "min") := by decide +kernel
theorem boot_isinstance : bootBuiltins "isinstance" = some (.builtin "isinstance") := by decide +kernel
theorem boot_abs : bootBuiltins "abs" = some (.builtin "abs") := by decide +kernel
theorem boot_int : bootBuiltins "int" = some (.type "int") := by decide +kernel
theorem boot_list : bootBuiltins "list" = some (.type "list") := by decide +kernel
/-- a written row of texts: what it is -/
def tStrs (zs : List Str) : TA := fun _ H Q => Q (zs.map V.str) H
def strE : Expr → Option Str
  | .Constant (.str z) _ _ => some z
  | _ => none
theorem strE_is {e : Expr} {z : Str} (h : strE e = some z) : ∃ j pos, e = .Constant (.str z) j pos := by
  unfold strE at h
  split at h
  · cases h
    exact ⟨_, _, rfl⟩
  · cases h
/-- a written row of texts -/
theorem pa_strs {X : Cx} : ∀ {es : List Expr} {zs : List Str}, es.map strE = zs.map some → PA X es (tStrs zs)
  | [], [], _ => pa_nil
  | [], _ :: _, h => by cases h
  | _ :: _, [], h => by cases h
  | e :: es, z :: zs, h => by
    rw [List.map_cons, List.map_cons] at h
    obtain ⟨h1, h2⟩ := List.cons.inj h
    obtain ⟨j, pos, rfl⟩ := strE_is h1
    exact pa_cons pe_str (pa_strs h2)
theorem strs_read {zs : List Str} {σ : L2.St} {H : Hp} {Q : List V → Hp → Prop} (h : Q (zs.map V.str) H) : tStrs zs σ H Q := h
/-- what the proofs ask of the module's names -/
structure TxtD (mg : Str → Option Value) : Prop where
  zlen : mg "len" = none
  zmin : mg "min" = none
  zint : mg "int" = none
  zrange : mg "range" = none
  zabs : mg "abs" = none
section
variable {P : Program} {w : World} {K : PySem.W.Frag} {mg : Str → Option Value} {base : Heap} 
/-- a def as one that may be called by its name -/
theorem cal_of {x : Str} {st : Stmt} {f : Addr} {fd : FuncData} {N ps : List Str} {k : Nat} {sp : Sp} (F : Fun K x x st f fd) (hm : mg x = some (.ref f)) (b : Binds K fd ps []) (S : FnScope N ps (defScope st)) (len : ∀ vs H Q E, sp vs H Q E → vs.length = ps.length)
    (hbody : ∀ (cdv : Value) (A : Around) (outer : List Env) (s : Shared) (H : Hp) (vs : List V) (Q : VK) (E : XK), Room k (A.deeper (envOfC x (defScope st) s.heap.objs.size f cdv)) → sp vs H Q E →
      ∃ t, PSs (cxOf CX0 P w K mg base N x (defScope st) f cdv A outer s H E).nox (defBody st) t ∧ t { nx := fun _ H' => Q .non H', rt := Q } (start N vs) H) : C8.Cal P w K mg base (k + 1) x sp [] :=
  ⟨f, fd, ps, [], F.ok S len hbody, hm, F.kp, b, .nil⟩
theorem same_new {H : Hp} {p : Addr} (h : H p = none) (o : HO) : Same H (upd H p o) := fun b u q => by rw [upd_ne (ne_of_none q h)]; exact q
theorem same_upd {H H' : Hp} {p : Addr} (h : H p = none) (s : Same H H') (o : HO) : Same H (upd H' p o) := fun b u q => by rw [upd_ne (ne_of_none q h)]; exact s b u q
theorem szl {n : Nat} (h : n ≤ 100000) : n < sizeLine := Nat.lt_of_le_of_lt h (by decide)
theorem at_ok {α : Type} {xs : List α} {k : Nat} (h : k < xs.length) : atI xs (0 + (k : Int)) = some xs[k] := by
  rw [Int.zero_add]
  exact atI_nat (List.getElem?_eq_getElem h)
theorem at_int {ns : List Int} {i : Int} (h0 : 0 ≤ i) (h1 : i < (ns.length : Int)) : ∃ v : Int, atI (ns.map V.int) i = some (.int v) := by
  have hk : i.toNat < ns.length := by omega
  refine ⟨ns[i.toNat], ?_⟩
  have q : atI (ns.map V.int) ((i.toNat : Nat) : Int) = some (.int ns[i.toNat]) := atI_nat (by rw [List.getElem?_map, List.getElem?_eq_getElem hk] <;> rfl)
  rw [show ((i.toNat : Nat) : Int) = i by omega] at q
  exact q

/-! ### the draws of a script -/
def dk3 (r : Addr) (i z : Int) : List (Key × V) := [(Sum.inr "row", .ref r), (Sum.inr "at", .int i), (Sum.inr "seed", .int z)]
theorem nk_ra : ¬ (Sum.inr ("row" : Str) : Key) = Sum.inr ("at" : Str) := by decide +kernel
theorem nk_rs : ¬ (Sum.inr ("row" : Str) : Key) = Sum.inr ("seed" : Str) := by decide +kernel
theorem nk_as : ¬ (Sum.inr ("at" : Str) : Key) = Sum.inr ("seed" : Str) := by decide +kernel
theorem nk_sa : ¬ (Sum.inr ("seed" : Str) : Key) = Sum.inr ("at" : Str) := by decide +kernel
theorem dk_row (r : Addr) (i z : Int) : valV (dk3 r i z) (Sum.inr "row" : Key) = some (.ref r) := valV_pos rfl
theorem dk_at (r : Addr) (i z : Int) : valV (dk3 r i z) (Sum.inr "at" : Key) = some (.int i) := (valV_neg nk_ra).trans (valV_pos rfl)
theorem dk_seed (r : Addr) (i z : Int) : valV (dk3 r i z) (Sum.inr "seed" : Key) = some (.int z) := (valV_neg nk_rs).trans ((valV_neg nk_as).trans (valV_pos rfl))
theorem dk_put (r : Addr) (i z j : Int) : putK (dk3 r i z) (Sum.inr "at" : Key) (.int j) = dk3 r j z := by
  have h1 : ¬ ("row" : Str) = "at" := by decide +kernel
  have h2 : ¬ ("seed" : Str) = "at" := by decide +kernel
  simp [putK, dk3, h1, h2]
theorem dk_merge (r : Addr) (z : Int) : mergeK [] [(Sum.inr "row", .ref r), (Sum.inr "at", .int 0), (Sum.inr "seed", .int z)] = dk3 r 0 z := by
  have h1 : ¬ ("row" : Str) = "at" := by decide +kernel
  have h2 : ¬ ("row" : Str) = "seed" := by decide +kernel
  have h3 : ¬ ("at" : Str) = "seed" := by decide +kernel
  simp [mergeK, putK, dk3, h1, h2, h3]
/-- a reader of draws stands at p -/
def DrawsAt (H : Hp) (p r : Addr) : Prop := ∃ (row : List Int) (i : Nat) (z : Int), H p = some (.dK (dk3 r (i : Int) z)) ∧ H r = some (.lst (row.map V.int))
theorem DrawsAt.same {H H' : Hp} {p r : Addr} (d : DrawsAt H p r) (s : Same H H') : DrawsAt H' p r := by
  obtain ⟨row, i, z, h1, h2⟩ := d
  exact ⟨row, i, z, s _ _ h1, s _ _ h2⟩
/-- all but p stays -/
def Keep (p : Addr) (H H' : Hp) : Prop := ∀ b o, b ≠ p → H b = some o → H' b = some o
abbrev sNext : Stmt := topS 11
theorem scNext : FnScope ["draws", "many", "at", "mixed"] ["draws", "many"] (defScope sNext) := ⟨rfl, rfl, rfl, by decide +kernel, rfl, by decide +kernel, by decide +kernel⟩
/-- some number below m; the reader moves on -/
def spNext : Sp := fun vs H Q _ => ∃ (p r : Addr) (m : Int), vs = [.ref p, .int m] ∧ 0 < m ∧ DrawsAt H p r ∧ ∀ (n : Int) (H' : Hp), 0 ≤ n → n < m → Keep p H H' → DrawsAt H' p r → Q (.int n) H'
theorem c_next {f : Addr} {fd : FuncData} (T : TxtD mg) (F : Fun K "_law_next" "_law_next" sNext f fd) (b : Binds K fd ["draws", "many"] []) (hm : mg "_law_next" = some (.ref f)) : C8.Cal P w K mg base 2 "_law_next" spNext [] := by
  refine cal_of F hm b scNext (fun vs H Q E h => ?_) (fun cdv A outer s H vs Q E hr h => ?_)
  · obtain ⟨p, r, m, rfl, _⟩ := h
    rfl
  obtain ⟨p, r, m, rfl, hm0, ⟨row, i, z, hp, hrow⟩, q⟩ := h
  have hu := hu_of hr
  have npr : r ≠ p := ne_of hrow hp (by intro z; cases z)
  refine ⟨_, (pss_cons (ps_set (i := 2) scNext.nd rfl (Or.inl rfl) (pe_dget hu (pv 0) pe_str (fun _ _ => rfl)))
    (pss_cons (ps_dput hu (pv 0) pe_str (pe_op op_add (pv 2) pe_int) rfl)
    (pss_cons (ps_if (pt_cmpR op_lt (pv 2) (pe_callB call_len_seq rfl T.zlen PySem.boot_len (pa_cons (pe_dget hu (pv 0) pe_str (fun _ _ => rfl)) pa_nil)) (nomark _))
      (pss_one (ps_ret (pe_op op_mod (pe_ix ix_list (pe_dget hu (pv 0) pe_str (fun _ _ => rfl)) (pv 2) (fun _ _ => rfl)) (pv 1))))
      pss_nil)
    (pss_cons (ps_set (i := 3) scNext.nd rfl (Or.inl rfl) (pe_op op_mod (pe_callTy call_int1 rfl T.zint boot_int (pa_cons (pe_op op_mul (pe_op op_add (pe_op op_add (pe_dget hu (pv 0) pe_str (fun _ _ => rfl)) (pe_op op_mul pe_int (pv 2))) pe_int) pe_int) pa_nil)) pe_int))
    (pss_one (ps_ret (pe_op op_mod (pe_op op_fdiv (pe_op op_mod (pe_callTy call_int1 rfl T.zint boot_int (pa_cons (pe_op op_add (pe_op op_mul (pv 3) (pv 3)) (pv 2)) pa_nil)) pe_int) pe_int) (pv 1)))))))), ?_⟩
  refine ⟨_, rfl, p, _, rfl, (dk_at r i z ▸ DGet.k (k := Sum.inr "at") hp), ?_⟩
  refine ⟨_, rfl, _, _, rfl, rfl, _, rfl, p, _, rfl, DPut.k (k := Sum.inr "at") hp (by show 3 < sizeLine; decide), ?_⟩
  rw [dk_put]
  have hp2 : upd H p (.dK (dk3 r ((i : Int) + 1) z)) p = some (.dK (dk3 r ((i : Int) + 1) z)) := upd_same
  have hr2 : upd H p (.dK (dk3 r ((i : Int) + 1) z)) r = some (.lst (row.map V.int)) := by rw [upd_ne npr]; exact hrow
  have fin : ∀ n : Int, 0 ≤ n → n < m → Q (.int n) (upd H p (.dK (dk3 r ((i : Int) + 1) z))) := fun n h0 h1 =>
    q n _ h0 h1 (fun b o hb e => by rw [upd_ne hb]; exact e) ⟨row, i + 1, z, by rw [upd_same]; rfl, hr2⟩
  refine ⟨_, rfl, _, rfl, p, _, rfl, (dk_row r _ z ▸ DGet.k (k := Sum.inr "row") hp2), r, _, rfl, .inl (SqL.of hr2), _, _, rfl, rfl, _, rfl, ?_⟩
  refine ite2 (fun c => ?_) (fun c => ?_)
  · have c' : (i : Int) < (((row.map V.int).length : Nat) : Int) := of_decide_eq_true c
    rw [List.length_map] at c'
    obtain ⟨v, hv⟩ := at_int (ns := row) (i := (i : Int)) (by omega) c'
    refine ⟨_, rfl, p, _, rfl, (dk_row r _ z ▸ DGet.k (k := Sum.inr "row") hp2), _, rfl, r, _, _, _, rfl, rfl, SqL.of hr2, hv, ?_⟩
    refine ⟨_, rfl, _, _, rfl, rfl, hm0, ?_⟩
    exact fin _ (Int.emod_nonneg _ (by omega)) (Int.emod_lt_of_pos _ hm0)
  · refine ⟨_, rfl, p, _, rfl, (dk_seed r _ z ▸ DGet.k (k := Sum.inr "seed") hp2), _, rfl, _, _, rfl, rfl, .inl (by decide), _, _, rfl, rfl, _, _, rfl, rfl, _, _, rfl, rfl, .inr (by decide), .inl ⟨_, rfl, _, _, rfl, rfl, (show (0 : Int) < 2147483647 by decide), ?_⟩⟩
    refine ⟨_, rfl, _, rfl, _, _, rfl, rfl, .inl ?_, _, rfl, _, _, rfl, rfl, .inl ⟨_, rfl, _, _, rfl, rfl, (show (0 : Int) < 2147483629 by decide), _, _, rfl, rfl, ⟨by decide, by decide⟩, _, rfl, _, _, rfl, rfl, hm0, ?_⟩⟩
    · omega
    · exact fin _ (Int.emod_nonneg _ (by omega)) (Int.emod_lt_of_pos _ hm0)
abbrev sDraws : Stmt := topS 9
theorem scDraws : FnScope ["script", "draws", "k", "cell", "turn", "mixed"] ["script"] (defScope sDraws) := ⟨rfl, rfl, rfl, by decide +kernel, rfl, by decide +kernel, by decide +kernel⟩
/-- some row of whole numbers, not longer than 1260 -/
def spDraws (K : PySem.W.Frag) : Sp := fun vs H Q _ => ∃ (a : Addr) (ns : List Int), vs = [.ref a] ∧ SqL K H a (ns.map V.int) ∧ ns.length ≤ 63 ∧ ∀ (r : Addr) (row : List Int) (H' : Hp), H r = none → Same H H' → row.length ≤ 1260 → H' r = some (.lst (row.map V.int)) → Q (.ref r) H'
theorem c_draws {f : Addr} {fd : FuncData} (T : TxtD mg) (F : Fun K "_law_draws" "_law_draws" sDraws f fd) (b : Binds K fd ["script"] []) (hm : mg "_law_draws" = some (.ref f)) : C8.Cal P w K mg base 1 "_law_draws" (spDraws K) [] := by
  refine cal_of F hm b scDraws (fun vs H Q E h => ?_) (fun cdv A outer s H vs Q E hr h => ?_)
  · obtain ⟨a, ns, rfl, _⟩ := h
    rfl
  obtain ⟨a, ns, rfl, hS, h63, q⟩ := h
  refine ⟨_, (pss_cons (ps_set (i := 1) scDraws.nd rfl (Or.inl rfl) (pe_lst pa_nil))
    (pss_cons (ps_for PassesOwn.never rfl (pi_range1 rfl T.zrange (pa_cons (pe_callB (call_min2 rfl) rfl T.zmin boot_min (pa_cons (pe_callB call_len_seq rfl T.zlen PySem.boot_len (pa_cons (pv 0) pa_nil)) (pa_cons pe_int pa_nil))) pa_nil)) (pg_name (i := 2) scDraws.nd rfl (Or.inl rfl))
      (pss_cons (ps_set (i := 3) scDraws.nd rfl (Or.inl rfl) (pe_callB call_abs rfl T.zabs boot_abs (pa_cons (pe_ix ix_list (pv 0) (pv 2) (fun _ _ => rfl)) pa_nil)))
    (pss_one (ps_if (pt_cmpR op_ge (pv 3) (pe_op op_pow pe_int pe_int) (nomark _))
      (pss_one (ps_for PassesOwn.never rfl (pi_range1 rfl T.zrange (pa_cons pe_int pa_nil)) (pg_name (i := 4) scDraws.nd rfl (Or.inl rfl))
      (pss_one (ps_if (pt_cmpR op_gt (pv 3) pe_int (nomark _))
      (pss_cons (ps_expr (pe_bm PySem.F.plainAttrs_list PySem.F.slot_list_append PySem.F.type_list_append mt_append (pv 1) (pa_cons (pe_op op_mod (pv 3) pe_int) pa_nil)))
    (pss_one (ps_set (i := 3) scDraws.nd rfl (Or.inl rfl) (pe_op op_fdiv (pv 3) pe_int))))
      pss_nil))))
      (pss_cons (ps_set (i := 5) scDraws.nd rfl (Or.inl rfl) (pe_op op_mod (pe_callTy call_int1 rfl T.zint boot_int (pa_cons (pe_op op_add (pe_op op_add (pe_op op_mul (pe_ix ix_list (pv 0) (pv 2) (fun _ _ => rfl)) pe_int) (pe_op op_mul (pv 2) pe_int)) pe_int) pa_nil)) pe_int))
    (pss_one (ps_for PassesOwn.never rfl (pi_range1 rfl T.zrange (pa_cons pe_int pa_nil)) (pg_name (i := 4) scDraws.nd rfl (Or.inl rfl))
      (pss_cons (ps_set (i := 5) scDraws.nd rfl (Or.inl rfl) (pe_op op_mod (pe_callTy call_int1 rfl T.zint boot_int (pa_cons (pe_op op_add (pe_op op_add (pe_op op_mul (pv 5) (pv 5)) (pe_op op_mul (pv 4) pe_int)) pe_int) pa_nil)) pe_int))
    (pss_one (ps_expr (pe_bm PySem.F.plainAttrs_list PySem.F.slot_list_append PySem.F.type_list_append mt_append (pv 1) (pa_cons (pe_op op_mod (pv 5) pe_int) pa_nil))))))))))))
    (pss_one (ps_ret (pv 1))))), ?_⟩
  refine ⟨(by show 0 ≤ sizeLine; decide), fun r hr0 => ?_⟩
  refine ⟨_, rfl, a, _, rfl, .inl ((same_new hr0 _).seq hS), _, _, rfl, _, rfl, ?_, ?_, for_range
    (fun (k : Nat) σ H2 => ∃ (kk c t x : Option V) (row : List Int), σ = [some (.ref a), some (.ref r), kk, c, t, x] ∧ Same H H2 ∧ H2 r = some (.lst (row.map V.int)) ∧ row.length ≤ 20 * k)
    ⟨none, none, none, none, [], rfl, same_new hr0 _, upd_same, by simp⟩ ?_ ?_⟩
  · split <;> omega
  · rw [List.length_map]
    split <;> omega
  · rintro k σ H2 hk ⟨kk, c, t, x, row, rfl, s2, hrow, hl⟩
    have hk' : (k : Int) < (ns.length : Int) := by
      rw [List.length_map] at hk
      split at hk <;> omega
    obtain ⟨v, hv⟩ := at_int (ns := ns) (i := 0 + (k : Int)) (by omega) (by omega)
    refine ⟨_, rfl, _, rfl, a, _, _, _, rfl, rfl, s2.seq hS, hv, _, rfl, ?_⟩
    refine ⟨_, rfl, _, _, rfl, rfl, ⟨by decide, by decide, by decide⟩, _, _, rfl, rfl, _, rfl, ?_⟩
    refine ite2 (fun _ => ?_) (fun _ => ?_)
    · refine ⟨20, rfl, by decide, by decide, for_range (fun (j : Nat) σ H3 => ∃ (t x : Option V) (c : Int) (row : List Int), σ = [some (.ref a), some (.ref r), some (.int (0 + (k : Int))), some (.int c), t, x] ∧ Same H H3 ∧ H3 r = some (.lst (row.map V.int)) ∧ row.length ≤ 20 * k + j)
        ⟨_, _, _, row, rfl, s2, hrow, by omega⟩ ?_ ?_⟩
      · rintro j σ H3 hj ⟨t, x, c, row, rfl, s3, hrow, hl⟩
        refine ⟨_, rfl, _, _, rfl, rfl, _, rfl, ?_⟩
        refine ite2 (fun _ => ?_) (fun _ => ?_)
        · refine ⟨_, rfl, .inl ⟨rfl, _, SqL.of hrow⟩, _, rfl, _, _, rfl, rfl, (show (0 : Int) < 1000 by decide), r, _, _, rfl, rfl, hrow, szl (by rw [List.length_map]; omega), ?_⟩
          refine ⟨_, rfl, _, _, rfl, rfl, ⟨by decide, by decide⟩, ?_⟩
          refine ⟨_, _, _, row ++ [c % 1000], rfl, same_upd hr0 s3 _, ?_, ?_⟩
          · rw [upd_same, List.map_append]
            rfl
          · rw [List.length_append]
            show row.length + 1 ≤ _
            omega
        · exact ⟨_, _, _, row, rfl, s3, hrow, by omega⟩
      · rintro σ H3 ⟨t, x, c, row, rfl, s3, hrow, hl⟩
        exact ⟨_, _, _, _, row, rfl, s3, hrow, by omega⟩
    · refine ⟨_, rfl, _, rfl, a, _, _, _, rfl, rfl, s2.seq hS, hv, _, _, rfl, rfl, .inr (by decide), _, rfl, _, _, rfl, rfl, .inr (by decide), _, _, rfl, rfl, _, _, rfl, rfl, .inl ⟨_, rfl, _, _, rfl, rfl, (show (0 : Int) < 2147483647 by decide), ?_⟩⟩
      refine ⟨3, rfl, by decide, by decide, for_range (fun (j : Nat) σ H3 => ∃ (t : Option V) (c x : Int) (row : List Int), (0 ≤ x ∧ x < 2147483648) ∧ σ = [some (.ref a), some (.ref r), some (.int (0 + (k : Int))), some (.int c), t, some (.int x)] ∧ Same H H3 ∧ H3 r = some (.lst (row.map V.int)) ∧ row.length ≤ 20 * k + j)
        ⟨_, _, _, row, by omega, rfl, s2, hrow, by omega⟩ ?_ ?_⟩
      · rintro j σ H3 hj ⟨t, c, x, row, hx, rfl, s3, hrow, hl⟩
        refine ⟨_, rfl, _, rfl, _, _, rfl, rfl, .inl (by omega), _, rfl, _, _, rfl, rfl, .inr (by decide), _, _, rfl, rfl, _, _, rfl, rfl, .inl ⟨_, rfl, _, _, rfl, rfl, (show (0 : Int) < 2147483629 by decide), ?_⟩⟩
        refine ⟨_, rfl, .inl ⟨rfl, _, SqL.of hrow⟩, _, rfl, _, _, rfl, rfl, (show (0 : Int) < 1000 by decide), r, _, _, rfl, rfl, hrow, szl (by rw [List.length_map]; omega), ?_⟩
        refine ⟨_, _, _, row ++ [(x * x + (0 + (j : Int)) * 7919 + 17) % 2147483629 % 1000], ?_, rfl, same_upd hr0 s3 _, ?_, ?_⟩
        · omega
        · rw [upd_same, List.map_append]
          rfl
        · rw [List.length_append]
          show row.length + 1 ≤ _
          omega
      · rintro σ H3 ⟨t, c, x, row, hx, rfl, s3, hrow, hl⟩
        exact ⟨_, _, _, _, row, rfl, s3, hrow, by omega⟩
  · rintro σ H2 ⟨kk, c, t, x, row, rfl, s2, hrow, hl⟩
    refine ⟨_, rfl, q r row H2 hr0 s2 ?_ hrow⟩
    split at hl <;> omega
theorem at_last {ns : List Int} (h : 0 < (ns.length : Int)) : ∃ v : Int, atI (ns.map V.int) (-1) = some (.int v) := by
  have hn : ns.length - 1 < ns.length := by omega
  refine ⟨ns[ns.length - 1], ?_⟩
  have e : ixN (ns.map V.int).length (-1) = some (ns.length - 1) := by
    unfold ixN
    rw [if_neg (by decide), List.length_map]
    rw [if_pos (by omega)]
    exact congrArg some (by omega)
  show (ixN (ns.map V.int).length (-1)).bind (fun j => (ns.map V.int)[j]?) = _
  rw [e]
  show (ns.map V.int)[ns.length - 1]? = _
  rw [List.getElem?_map, List.getElem?_eq_getElem hn]
  rfl
abbrev sReader : Stmt := topS 10
theorem scReader : FnScope ["script", "row", "seed"] ["script"] (defScope sReader) := ⟨rfl, rfl, rfl, by decide +kernel, rfl, by decide +kernel, by decide +kernel⟩
def spReader (K : PySem.W.Frag) : Sp := fun vs H Q _ => ∃ (a : Addr) (ns : List Int), vs = [.ref a] ∧ SqL K H a (ns.map V.int) ∧ ns.length ≤ 63 ∧ ∀ (p r : Addr) (H' : Hp), H p = none → Same H H' → DrawsAt H' p r → Q (.ref p) H'
theorem c_reader {f : Addr} {fd : FuncData} (T : TxtD mg) (c_law_draws : C8.Cal P w K mg base 1 "_law_draws" (spDraws K) []) (F : Fun K "_law_reader" "_law_reader" sReader f fd) (b : Binds K fd ["script"] []) (hm : mg "_law_reader" = some (.ref f)) : C8.Cal P w K mg base 2 "_law_reader" (spReader K) [] := by
  refine cal_of F hm b scReader (fun vs H Q E h => ?_) (fun cdv A outer s H vs Q E hr h => ?_)
  · obtain ⟨a, ns, rfl, _⟩ := h
    rfl
  obtain ⟨a, ns, rfl, hS, h63, q⟩ := h
  refine ⟨_, (pss_cons (ps_set (i := 1) scReader.nd rfl (Or.inl rfl) (C8.pe_c c_law_draws hr (by decide) rfl (pa_cons (pv 0) pa_nil)))
    (pss_cons (ps_set (i := 2) scReader.nd rfl (Or.inl rfl) pe_int)
    (pss_cons (ps_if (pt_cmpR op_gt (pe_callB call_len_seq rfl T.zlen PySem.boot_len (pa_cons (pv 0) pa_nil)) pe_int (nomark _))
      (pss_one (ps_set (i := 2) scReader.nd rfl (Or.inl rfl) (pe_op op_mod (pe_callB call_abs rfl T.zabs boot_abs (pa_cons (pe_ix ix_list (pv 0) (pe_un un_neg pe_int) (fun _ _ => rfl)) pa_nil)) pe_int)))
      pss_nil)
    (pss_one (ps_ret (pe_disp (pps_cons pe_str (pv 1) (pps_cons pe_str pe_int (pps_cons pe_str (pv 2) pps_nil))) rfl rfl (by decide) (by decide))))))), ?_⟩
  refine ⟨_, rfl, a, ns, rfl, hS, h63, fun r row H2 hr0 s2 hl hrow => ?_⟩
  have fin : ∀ (z : Int) (p : Addr), H2 p = none → Q (.ref p) (upd (upd H2 p (.dK [])) p (.dK (mergeK [] [(Sum.inr "row", .ref r), (Sum.inr "at", .int 0), (Sum.inr "seed", .int z)]))) := fun z p hp => by
    have np : r ≠ p := ne_of_none hrow hp
    refine q p r _ (s2.free hp) (same_upd (s2.free hp) (same_upd (s2.free hp) s2 _) _) ⟨row, 0, z, ?_, by rw [upd_ne np, upd_ne np]; exact hrow⟩
    rw [upd_same, dk_merge]
    rfl
  refine ⟨_, rfl, a, _, rfl, .inl (s2.seq hS), _, _, rfl, rfl, _, rfl, ?_⟩
  refine ite2 (fun c => ?_) (fun c => ?_)
  · have c' : (0 : Int) < (((ns.map V.int).length : Nat) : Int) := of_decide_eq_true c
    rw [List.length_map] at c'
    obtain ⟨v, hv⟩ := at_last (ns := ns) c'
    refine ⟨_, rfl, _, rfl, a, _, _, _, rfl, rfl, s2.seq hS, hv, _, rfl, _, _, rfl, rfl, (show (0 : Int) < 1000003 by decide), ?_⟩
    intro p hp
    have np : r ≠ p := ne_of_none hrow hp
    refine ⟨_, rfl, _, rfl, upd_same, [(Sum.inr "row", V.ref r), (Sum.inr "at", V.int 0), (Sum.inr "seed", V.int _)], rfl, (by show 3 ≤ 15; decide), ?_⟩
    exact fin _ p hp
  · intro p hp
    have np : r ≠ p := ne_of_none hrow hp
    refine ⟨_, rfl, _, rfl, upd_same, [(Sum.inr "row", V.ref r), (Sum.inr "at", V.int 0), (Sum.inr "seed", V.int _)], rfl, (by show 3 ≤ 15; decide), ?_⟩
    exact fin _ p hp

end
end Toy

set_option Elab.async false
set_option linter.all false
set_option maxRecDepth 100000
set_option maxHeartbeats 4000000
/-! Part X: own rule: sorted of texts, any number of them; the order of texts. -/
namespace Toy
open PySem PySem.Spec PyProof.Rows L2
def rSortedSA (K : PySem.W.Frag) : List V → Hp → VK → Prop := fun vs H Q => ∃ (a : Addr) (xs : List Str), vs = [V.ref a] ∧ SqL K H a (xs.map V.str) ∧
  ∀ (ys : List Str) (p : Addr), ys.Perm xs → sortedS ys = true → H p = none → Q (.ref p) (upd H p (.lst (ys.map V.str)))
theorem cr_sortedSA {X : Cx} : CallR X (.builtin "sorted") (rSortedSA X.K) := by
  intro pins s σ H vs us Q I r h
  obtain ⟨a, xs, rfl, hs, q⟩ := h
  obtain ⟨its, rv, hl, hz⟩ := I.list hs
  rw [Vals.ref1 r]
  have hlen0 := rv.length
  rw [List.length_map] at hlen0
  rw [List.length_map] at hz
  refine PyProof.Rows.sorted_strsAny hl.isList rv.strs (by rw [← hlen0]; exact hz) fun out ys h1 h2 h3 => ?_
  obtain ⟨ep, he'⟩ := PyProof.Rows.sortedAll_at s.heap its out
  have hlen : (ys.map V.str).length ≤ sizeLine := by rw [List.length_map, h2.length_eq]; exact hz
  exact ⟨.ref _, upd H (s.heap.objs.size + 1) (.lst (ys.map V.str)), I.laid (t' := s.toks) (fun _ _ => PyProof.Rows.sortedAll_old) (Nat.le_succ _) ⟨hlen, out.toList, ep, vals_of_strs h1, he'⟩, rfl, q ys _ h2 h3 (I.hok.fresh (Nat.le_succ _))⟩
/-! ### the order of texts -/
def lts (a b : Str) : Bool := ltCps a.cps.toList b.cps.toList
theorem cps_asym : ∀ a b : List Nat, ltCps a b = true → ltCps b a = false
  | [], [], h => by cases h
  | [], _ :: _, _ => rfl
  | _ :: _, [], h => by cases h
  | a :: r, b :: t, h => by
    simp only [ltCps, Bool.or_eq_true, Bool.and_eq_true, decide_eq_true_eq, beq_iff_eq, Bool.or_eq_false_iff, Bool.and_eq_false_iff, decide_eq_false_iff_not, beq_eq_false_iff_ne] at h ⊢
    rcases h with h | ⟨h1, h2⟩
    · exact ⟨by omega, .inl (by omega)⟩
    · exact ⟨by omega, .inr (cps_asym r t h2)⟩
theorem cps_tri : ∀ a b : List Nat, ltCps a b = false → ltCps b a = false → a = b
  | [], [], _, _ => rfl
  | [], _ :: _, h, _ => by cases h
  | _ :: _, [], _, h => by cases h
  | a :: r, b :: t, h, k => by
    simp only [ltCps, Bool.or_eq_false_iff, Bool.and_eq_false_iff, decide_eq_false_iff_not, beq_eq_false_iff_ne] at h k
    have e : a = b := by omega
    subst e
    have h2 : ltCps r t = false := h.2.elim (fun z => absurd rfl z) id
    have k2 : ltCps t r = false := k.2.elim (fun z => absurd rfl z) id
    rw [cps_tri r t h2 k2]
/-- not above, twice -/
theorem cps_trans : ∀ a b c : List Nat, ltCps b a = false → ltCps c b = false → ltCps c a = false
  | [], _, c, _, _ => by cases c <;> rfl
  | _ :: _, [], _, h, _ => by cases h
  | _ :: _, _ :: _, [], _, h => by cases h
  | a :: r, b :: t, c :: u, h, k => by
    simp only [ltCps, Bool.or_eq_false_iff, Bool.and_eq_false_iff, decide_eq_false_iff_not, beq_eq_false_iff_ne] at h k ⊢
    refine ⟨by omega, ?_⟩
    by_cases e : c = a
    · subst e
      have e2 : b = c := by omega
      subst e2
      exact .inr (cps_trans r t u (h.2.elim (fun z => absurd rfl z) id) (k.2.elim (fun z => absurd rfl z) id))
    · exact .inl e
theorem lts_asym {a b : Str} (h : lts a b = true) : lts b a = false := cps_asym _ _ h
theorem str_cps {a b : Str} (h : a.cps.toList = b.cps.toList) : a = b := by
  cases a with
  | mk x =>
    cases b with
    | mk y =>
      have e : x = y := Array.ext' h
      rw [e]
theorem lts_tri {a b : Str} (h : lts a b = false) (k : lts b a = false) : a = b := str_cps (cps_tri _ _ h k)
theorem lts_trans {a b c : Str} (h : lts b a = false) (k : lts c b = false) : lts c a = false := cps_trans _ _ _ h k
/-- rising, no two of them the same -/
def Up (l : List Str) : Prop := l.Pairwise fun a b => lts a b = true
/-- rising, some of them the same -/
def Rise (l : List Str) : Prop := l.Pairwise fun a b => lts b a = false
theorem rises : ∀ (l : List Str) (p : Str), risingS p l = true → Rise (p :: l)
  | [], p, _ => List.pairwise_singleton _ _
  | x :: r, p, h => by
    have h : (!ltCps x.cps.toList p.cps.toList && risingS x r) = true := h
    rw [Bool.and_eq_true, Bool.not_eq_true'] at h
    have ih := rises r x h.2
    refine List.pairwise_cons.mpr ⟨fun y hy => ?_, ih⟩
    rcases List.mem_cons.mp hy with e | e
    · rw [e]; exact h.1
    · exact lts_trans (a := p) (b := x) h.1 ((List.pairwise_cons.mp ih).1 y e)
theorem rise_of : ∀ {l : List Str}, sortedS l = true → Rise l
  | [], _ => List.Pairwise.nil
  | x :: r, h => rises r x h
theorem up_of {l : List Str} (h : Rise l) (n : l.Nodup) : Up l := by
  have z : l.Pairwise fun a b => lts b a = false ∧ a ≠ b := List.Pairwise.and h n
  exact z.imp fun {a b} ⟨h1, h2⟩ => by
    cases e : lts a b with
    | true => rfl
    | false => exact (h2 (lts_tri e h1)).elim
/-- two rising rows with the same members are the same -/
theorem up_eq : ∀ {l m : List Str}, Up l → Up m → (∀ s, s ∈ l ↔ s ∈ m) → l = m
  | [], [], _, _, _ => rfl
  | [], y :: m, _, _, h => absurd ((h y).mpr (List.mem_cons_self ..)) List.not_mem_nil
  | x :: l, [], _, _, h => absurd ((h x).mp (List.mem_cons_self ..)) List.not_mem_nil
  | x :: l, y :: m, hl, hm, h => by
    have hl2 := List.pairwise_cons.mp hl
    have hm2 := List.pairwise_cons.mp hm
    have e : x = y := by
      rcases List.mem_cons.mp ((h x).mp (List.mem_cons_self ..)) with e | e
      · exact e
      · rcases List.mem_cons.mp ((h y).mpr (List.mem_cons_self ..)) with e2 | e2
        · exact e2.symm
        · have z1 := hm2.1 x e
          have z2 := hl2.1 y e2
          rw [lts_asym z1] at z2
          cases z2
    subst e
    have nx1 : x ∉ l := fun hx => by
      have z := hl2.1 x hx
      rw [lts_asym z] at z
      cases z
    have nx2 : x ∉ m := fun hx => by
      have z := hm2.1 x hx
      rw [lts_asym z] at z
      cases z
    rw [up_eq hl2.2 hm2.2 fun s => ?_]
    constructor
    · intro hs
      rcases List.mem_cons.mp ((h s).mp (List.mem_cons_of_mem _ hs)) with e | e
      · rw [e] at hs; exact (nx1 hs).elim
      · exact e
    · intro hs
      rcases List.mem_cons.mp ((h s).mpr (List.mem_cons_of_mem _ hs)) with e | e
      · rw [e] at hs; exact (nx2 hs).elim
      · exact e
/-- a row without repetitions in another one is not longer -/
theorem nodup_len : ∀ {l m : List Str}, l.Nodup → (∀ s ∈ l, s ∈ m) → l.length ≤ m.length
  | [], m, _, _ => Nat.zero_le _
  | x :: l, m, n, h => by
    have n2 := List.nodup_cons.mp n
    have hx := h x (List.mem_cons_self ..)
    have z := nodup_len (m := m.erase x) n2.2 fun s hs => by
      have ne : s ≠ x := fun e => n2.1 (e ▸ hs)
      exact (List.mem_erase_of_ne ne).mpr (h s (List.mem_cons_of_mem _ hs))
    rw [List.length_erase_of_mem hx] at z
    have := List.length_pos_of_mem hx
    rw [List.length_cons]
    omega
end Toy

set_option Elab.async false
set_option linter.all false
set_option maxRecDepth 100000
set_option maxHeartbeats 4000000
/-! Part B: expressions, in plain Lean, and how they stand in the heap. -/
namespace Toy
open PySem L2
abbrev ABC : List Str := ["f", "g", "x", "y", "zz", "x'", "q_1"]
/-- a few of the names -/
structure NsOk (ns : List Str) : Prop where
  mem : ∀ s ∈ ns, s ∈ ABC
  len : ns.length ≤ 5
inductive Pt
  | con (s : Str) (ns : List Str)
  | num (i : Int)
  | nm (s : Str)
def Pt.names : Pt → List Str
  | .con _ ns => ns
  | .num _ => []
  | .nm s => [s]
def Pt.At (H : Hp) : Pt → V → Prop
  | .con s ns, v => ∃ a b, v = .ref a ∧ H a = some (.tup [.str "pcon", .str s, .ref b]) ∧ H b = some (.tup (ns.map V.str))
  | .num i, v => ∃ a, v = .ref a ∧ H a = some (.tup [.str "pnum", .int i])
  | .nm s, v => ∃ a, v = .ref a ∧ H a = some (.tup [.str "pname", .str s])
abbrev Hd := Option (Str × List Str)
/-- what is defined -/
def defs : List Hd → List Str
  | [] => []
  | none :: hs => defs hs
  | some q :: hs => q.1 :: defs hs
/-- expressions; the ones without names of their own in one form -/
inductive Ex
  | var (s : Str)
  | pl (w : Str) (o : Option V) (l : List Ex)
  | ls (l : List Ex)
  | lam (ns : List Str) (e : Ex)
  | lt (hs : List Hd) (l : List Ex) (e : Ex)
  | cs (e : Ex) (ps : List Pt) (l : List Ex)
/-- the forms without names of their own -/
def PlOk (w : Str) (o : Option V) (n : Nat) : Prop := ((w = "num" ∨ w = "con") ∧ (∃ v, o = some v) ∧ n = 0) ∨ ((w = "app" ∨ w = "if") ∧ o = none ∧ n ≤ 3) ∨ ((w = "op" ∨ w = "note") ∧ (∃ v, o = some v) ∧ n ≤ 2)
mutual
/-- an expression stands in the heap as v -/
def Ex.At (H : Hp) : Ex → V → Prop
  | .var s, v => ∃ a, v = .ref a ∧ H a = some (.tup [.str "var", .str s]) ∧ s ∈ ABC
  | .pl w o l, v => ∃ a xs, v = .ref a ∧ H a = some (.tup (.str w :: (o.toList ++ xs))) ∧ Ex.Ats H l xs ∧ PlOk w o l.length
  | .ls l, v => ∃ a b xs, v = .ref a ∧ H a = some (.tup [.str "list", .ref b]) ∧ H b = some (.tup xs) ∧ Ex.Ats H l xs
  | .lam ns e, v => ∃ a b u, v = .ref a ∧ H a = some (.tup [.str "lam", .ref b, u]) ∧ H b = some (.tup (ns.map V.str)) ∧ NsOk ns ∧ e.At H u
  | .lt hs l e, v => ∃ a b xs u, v = .ref a ∧ H a = some (.tup [.str "let", .ref b, u]) ∧ H b = some (.tup xs) ∧ Ex.Rows H l hs xs ∧ NsOk (defs hs) ∧ e.At H u
  | .cs e ps l, v => ∃ a b xs u, v = .ref a ∧ H a = some (.tup [.str "case", u, .ref b]) ∧ H b = some (.tup xs) ∧ Ex.Alts H l ps xs ∧ e.At H u
def Ex.Ats (H : Hp) : List Ex → List V → Prop
  | [], xs => xs = []
  | e :: l, xs => ∃ x ys, xs = x :: ys ∧ e.At H x ∧ Ex.Ats H l ys
def Ex.Rows (H : Hp) : List Ex → List Hd → List V → Prop
  | [], hs, xs => hs = [] ∧ xs = []
  | e :: l, hs, xs => ∃ h hs' r ys, hs = h :: hs' ∧ xs = .ref r :: ys ∧ ((h = none ∧ ∃ w, H r = some (.tup (.str "sign" :: w))) ∨ ∃ q b u, h = some q ∧ H r = some (.tup [.str "define", .str q.1, .ref b, u]) ∧ H b = some (.tup (q.2.map V.str)) ∧ NsOk q.2 ∧ e.At H u) ∧ Ex.Rows H l hs' ys
def Ex.Alts (H : Hp) : List Ex → List Pt → List V → Prop
  | [], ps, xs => ps = [] ∧ xs = []
  | e :: l, ps, xs => ∃ p ps' r pv u ys, ps = p :: ps' ∧ xs = .ref r :: ys ∧ H r = some (.tup [pv, u]) ∧ p.At H pv ∧ NsOk p.names ∧ e.At H u ∧ Ex.Alts H l ps' ys
end
/-- a heap in which the tuples stand -/
def TK (H H' : Hp) : Prop := ∀ a xs, H a = some (.tup xs) → H' a = some (.tup xs)
theorem TK.refl (H : Hp) : TK H H := fun _ _ h => h
theorem TK.trans {H1 H2 H3 : Hp} (h : TK H1 H2) (k : TK H2 H3) : TK H1 H3 := fun a xs e => k a xs (h a xs e)
theorem tk_same {H H' : Hp} (s : Same H H') : TK H H' := fun _ _ e => s _ _ e
theorem tk_upd {H : Hp} {p : Addr} {o : HO} (n : ∀ xs, H p ≠ some (.tup xs)) : TK H (upd H p o) := fun a xs e => by
  rw [upd_ne (fun z => n xs (by rw [← z]; exact e))]
  exact e
theorem tk_list {H : Hp} {p : Addr} {ys : List V} {o : HO} (h : H p = some (.lst ys)) : TK H (upd H p o) := tk_upd fun xs e => by rw [h] at e; cases e
theorem tk_dict {H : Hp} {p : Addr} {kvs : List (Key × V)} {o : HO} (h : H p = some (.dK kvs)) : TK H (upd H p o) := tk_upd fun xs e => by rw [h] at e; cases e
theorem tk_new {H : Hp} {p : Addr} {o : HO} (h : H p = none) : TK H (upd H p o) := tk_same (same_new h o)
theorem tk_keep {p : Addr} {H H' : Hp} (k : Keep p H H') (n : ∀ xs, H p ≠ some (.tup xs)) : TK H H' := fun a xs e => k a _ (fun z => n xs (z ▸ e)) e
theorem DrawsAt.notup {H : Hp} {p r : Addr} (d : DrawsAt H p r) : ∀ xs, H p ≠ some (.tup xs) := fun xs e => by
  obtain ⟨_, _, _, h, _⟩ := d
  rw [h] at e
  cases e
theorem Keep.same {p : Addr} {H H' : Hp} (s : Same H H') : Keep p H H' := fun b o _ e => s b o e
theorem Keep.trans {p : Addr} {H1 H2 H3 : Hp} (h : Keep p H1 H2) (k : Keep p H2 H3) : Keep p H1 H3 := fun b o n e => k b o n (h b o n e)
theorem keep_upd {p t : Addr} {H H' : Hp} (ht : H t = none) (k : Keep p H H') (o : HO) : Keep p H (upd H' t o) := fun b u n e => by
  have z : b ≠ t := fun q => by rw [q, ht] at e; cases e
  rw [upd_ne z]
  exact k b u n e
theorem DrawsAt.off {H : Hp} {p r D : Addr} (d : DrawsAt H p r) (np : D ≠ p) (nr : D ≠ r) (o : HO) : DrawsAt (upd H D o) p r := by
  obtain ⟨row, i, z, g1, g2⟩ := d
  exact ⟨row, i, z, by rw [upd_ne np.symm]; exact g1, by rw [upd_ne nr.symm]; exact g2⟩
theorem DrawsAt.fresh {H : Hp} {p r D : Addr} (d : DrawsAt H p r) (h : H D = none) : D ≠ p ∧ D ≠ r := by
  obtain ⟨row, i, z, g1, g2⟩ := d
  exact ⟨fun e => (by rw [e, g1] at h; cases h), fun e => (by rw [e, g2] at h; cases h)⟩
theorem Pt.At.keep {H H' : Hp} (t : TK H H') : ∀ {p : Pt} {v : V}, p.At H v → p.At H' v
  | .con s ns, _, ⟨a, b, e, h, h2⟩ => ⟨a, b, e, t _ _ h, t _ _ h2⟩
  | .num i, _, ⟨a, e, h⟩ => ⟨a, e, t _ _ h⟩
  | .nm s, _, ⟨a, e, h⟩ => ⟨a, e, t _ _ h⟩
mutual
theorem Ex.At.keep {H H' : Hp} (t : TK H H') : ∀ {k : Ex} {v : V}, k.At H v → k.At H' v
  | .var s, _, ⟨a, e, h, h2⟩ => ⟨a, e, t _ _ h, h2⟩
  | .pl w o l, _, ⟨a, xs, e, h, h1, h2⟩ => ⟨a, xs, e, t _ _ h, Ex.Ats.keep t h1, h2⟩
  | .ls l, _, ⟨a, b, xs, e, h, h1, h2⟩ => ⟨a, b, xs, e, t _ _ h, t _ _ h1, Ex.Ats.keep t h2⟩
  | .lam ns k, _, ⟨a, b, u, e, h, h1, h2, h3⟩ => ⟨a, b, u, e, t _ _ h, t _ _ h1, h2, Ex.At.keep t h3⟩
  | .lt hs l k, _, ⟨a, b, xs, u, e, h, h1, h2, h3, h4⟩ => ⟨a, b, xs, u, e, t _ _ h, t _ _ h1, Ex.Rows.keep t h2, h3, Ex.At.keep t h4⟩
  | .cs k ps l, _, ⟨a, b, xs, u, e, h, h1, h2, h3⟩ => ⟨a, b, xs, u, e, t _ _ h, t _ _ h1, Ex.Alts.keep t h2, Ex.At.keep t h3⟩
theorem Ex.Ats.keep {H H' : Hp} (t : TK H H') : ∀ {l : List Ex} {xs : List V}, Ex.Ats H l xs → Ex.Ats H' l xs
  | [], _, h => h
  | k :: l, _, ⟨x, ys, e, h1, h2⟩ => ⟨x, ys, e, Ex.At.keep t h1, Ex.Ats.keep t h2⟩
theorem Ex.Rows.keep {H H' : Hp} (t : TK H H') : ∀ {l : List Ex} {hs : List Hd} {xs : List V}, Ex.Rows H l hs xs → Ex.Rows H' l hs xs
  | [], _, _, h => h
  | k :: l, _, _, ⟨h, hs', r, ys, e1, e2, .inl ⟨e3, w, h3⟩, h4⟩ => ⟨h, hs', r, ys, e1, e2, .inl ⟨e3, w, t _ _ h3⟩, Ex.Rows.keep t h4⟩
  | k :: l, _, _, ⟨h, hs', r, ys, e1, e2, .inr ⟨q, b, u, e3, h1, h2, h3, h4⟩, h5⟩ => ⟨h, hs', r, ys, e1, e2, .inr ⟨q, b, u, e3, t _ _ h1, t _ _ h2, h3, Ex.At.keep t h4⟩, Ex.Rows.keep t h5⟩
theorem Ex.Alts.keep {H H' : Hp} (t : TK H H') : ∀ {l : List Ex} {ps : List Pt} {xs : List V}, Ex.Alts H l ps xs → Ex.Alts H' l ps xs
  | [], _, _, h => h
  | k :: l, _, _, ⟨p, ps', r, pv, u, ys, e1, e2, h1, h2, h3, h4, h5⟩ => ⟨p, ps', r, pv, u, ys, e1, e2, t _ _ h1, h2.keep t, h3, Ex.At.keep t h4, Ex.Alts.keep t h5⟩
end
mutual
def Ex.size : Ex → Nat
  | .var _ => 1
  | .pl _ _ l => 1 + Ex.sizes l
  | .ls l => 1 + Ex.sizes l
  | .lam _ e => 1 + e.size
  | .lt _ l e => 1 + Ex.sizes l + e.size
  | .cs e _ l => 1 + e.size + Ex.sizes l
def Ex.sizes : List Ex → Nat
  | [] => 0
  | e :: l => e.size + Ex.sizes l
end
mutual
def Ex.dep : Ex → Nat
  | .var _ => 0
  | .pl _ _ l => 1 + Ex.deps l
  | .ls l => 1 + Ex.deps l
  | .lam _ e => 1 + e.dep
  | .lt _ l e => 1 + max (Ex.deps l) e.dep
  | .cs e _ l => 1 + max e.dep (Ex.deps l)
def Ex.deps : List Ex → Nat
  | [] => 0
  | e :: l => max e.dep (Ex.deps l)
end
mutual
/-- a name occurs free -/
def Ex.occ (s : Str) : Ex → Prop
  | .var t => s = t
  | .pl _ _ l => Ex.occs s l
  | .ls l => Ex.occs s l
  | .lam ns e => s ∉ ns ∧ e.occ s
  | .lt hs l e => s ∉ defs hs ∧ (Ex.occR s l hs ∨ e.occ s)
  | .cs e ps l => e.occ s ∨ Ex.occA s l ps
def Ex.occs (s : Str) : List Ex → Prop
  | [] => False
  | e :: l => e.occ s ∨ Ex.occs s l
def Ex.occR (s : Str) : List Ex → List Hd → Prop
  | [], _ => False
  | _ :: _, [] => False
  | _ :: l, none :: hs => Ex.occR s l hs
  | e :: l, some q :: hs => (s ∉ q.2 ∧ e.occ s) ∨ Ex.occR s l hs
def Ex.occA (s : Str) : List Ex → List Pt → Prop
  | [], _ => False
  | _ :: _, [] => False
  | e :: l, p :: ps => (s ∉ p.names ∧ e.occ s) ∨ Ex.occA s l ps
end
mutual
theorem Ex.occ_abc {H : Hp} {s : Str} : ∀ {k : Ex} {v : V}, k.At H v → k.occ s → s ∈ ABC
  | .var t, _, ⟨a, e, h, h2⟩, o => by
    have o : s = t := o
    rw [o]; exact h2
  | .pl w o l, _, ⟨a, xs, e, h, h1, h2⟩, oc => Ex.occs_abc h1 oc
  | .ls l, _, ⟨a, b, xs, e, h, h1, h2⟩, oc => Ex.occs_abc h2 oc
  | .lam ns k, _, ⟨a, b, u, e, h, h1, h2, h3⟩, oc => Ex.occ_abc h3 oc.2
  | .lt hs l k, _, ⟨a, b, xs, u, e, h, h1, h2, h3, h4⟩, oc => oc.2.elim (Ex.occR_abc h2) (Ex.occ_abc h4)
  | .cs k ps l, _, ⟨a, b, xs, u, e, h, h1, h2, h3⟩, oc => oc.elim (Ex.occ_abc h3) (Ex.occA_abc h2)
theorem Ex.occs_abc {H : Hp} {s : Str} : ∀ {l : List Ex} {xs : List V}, Ex.Ats H l xs → Ex.occs s l → s ∈ ABC
  | [], _, _, h => h.elim
  | k :: l, _, ⟨x, ys, e, h1, h2⟩, oc => oc.elim (Ex.occ_abc h1) (Ex.occs_abc h2)
theorem Ex.occR_abc {H : Hp} {s : Str} : ∀ {l : List Ex} {hs : List Hd} {xs : List V}, Ex.Rows H l hs xs → Ex.occR s l hs → s ∈ ABC
  | [], _, _, _, h => by cases h
  | k :: l, _, _, ⟨h, hs', r, ys, e1, e2, .inl ⟨e3, w, h3⟩, h4⟩, oc => by
    rw [e1, e3] at oc
    exact Ex.occR_abc h4 oc
  | k :: l, _, _, ⟨h, hs', r, ys, e1, e2, .inr ⟨q, b, u, e3, h1, h2, h3, h4⟩, h5⟩, oc => by
    rw [e1, e3] at oc
    have oc : (s ∉ q.2 ∧ k.occ s) ∨ Ex.occR s l hs' := oc
    exact oc.elim (fun z => Ex.occ_abc h4 z.2) (Ex.occR_abc h5)
theorem Ex.occA_abc {H : Hp} {s : Str} : ∀ {l : List Ex} {ps : List Pt} {xs : List V}, Ex.Alts H l ps xs → Ex.occA s l ps → s ∈ ABC
  | [], _, _, _, h => by cases h
  | k :: l, _, _, ⟨p, ps', r, pv, u, ys, e1, e2, h1, h2, h3, h4, h5⟩, oc => by
    rw [e1] at oc
    have oc : (s ∉ p.names ∧ k.occ s) ∨ Ex.occA s l ps' := oc
    exact oc.elim (fun z => Ex.occ_abc h4 z.2) (Ex.occA_abc h5)
end
theorem Ex.Ats.len {H : Hp} : ∀ {l : List Ex} {xs : List V}, Ex.Ats H l xs → xs.length = l.length
  | [], _, h => by
    have e : _ = [] := h
    rw [e]; rfl
  | k :: l, _, ⟨x, ys, e, h1, h2⟩ => by rw [e, List.length_cons, List.length_cons, Ex.Ats.len h2]
theorem Ex.Ats.get {H : Hp} : ∀ {l : List Ex} {xs : List V} (j : Nat) {x : V}, Ex.Ats H l xs → xs[j]? = some x → ∃ k, l[j]? = some k ∧ k.At H x
  | [], _, j, x, h, e => by
    have z : _ = [] := h
    rw [z] at e
    simp at e
  | k :: l, _, 0, x, ⟨y, ys, e1, h1, h2⟩, e => by
    rw [e1] at e
    cases e
    exact ⟨k, rfl, h1⟩
  | k :: l, _, j + 1, x, ⟨y, ys, e1, h1, h2⟩, e => by
    rw [e1] at e
    exact Ex.Ats.get j h2 e
theorem Ex.Ats.app {H : Hp} : ∀ {l m : List Ex} {xs ys : List V}, Ex.Ats H l xs → Ex.Ats H m ys → Ex.Ats H (l ++ m) (xs ++ ys)
  | [], m, xs, ys, h, k => by
    have z : _ = [] := h
    rw [z]; exact k
  | e :: l, m, _, ys, ⟨x, xs, e1, h1, h2⟩, k => ⟨x, xs ++ ys, by rw [e1]; rfl, h1, Ex.Ats.app h2 k⟩
theorem Ex.size_pos : ∀ k : Ex, 1 ≤ k.size
  | .var _ => Nat.le_refl _
  | .pl _ _ l => by show 1 ≤ 1 + _; omega
  | .ls l => by show 1 ≤ 1 + _; omega
  | .lam _ e => by show 1 ≤ 1 + _; omega
  | .lt _ l e => by show 1 ≤ 1 + _ + _; omega
  | .cs e _ l => by show 1 ≤ 1 + _ + _; omega
theorem Ex.sizes_len : ∀ l : List Ex, l.length ≤ Ex.sizes l
  | [] => Nat.le_refl _
  | k :: l => by
    have := Ex.sizes_len l
    have := k.size_pos
    show l.length + 1 ≤ k.size + Ex.sizes l
    omega
theorem Ex.sizes_app : ∀ a b : List Ex, Ex.sizes (a ++ b) = Ex.sizes a + Ex.sizes b
  | [], b => by rw [List.nil_append, Ex.sizes, Nat.zero_add]
  | k :: a, b => by rw [List.cons_append, Ex.sizes, Ex.sizes, Ex.sizes_app a b, Nat.add_assoc]
theorem size_mem : ∀ {l : List Ex} {c : Ex}, c ∈ l → c.size ≤ Ex.sizes l
  | k :: l, c, hc => by
    rw [Ex.sizes]
    rcases List.mem_cons.mp hc with e | e
    · rw [e]; omega
    · have := size_mem e
      omega
theorem deps_mem : ∀ {l : List Ex} {c : Ex}, c ∈ l → c.dep ≤ Ex.deps l
  | k :: l, c, hc => by
    rw [Ex.deps]
    rcases List.mem_cons.mp hc with e | e
    · rw [e]; omega
    · have := deps_mem e
      omega
theorem occs_mem {s : Str} : ∀ {l : List Ex}, Ex.occs s l ↔ ∃ e ∈ l, e.occ s
  | [] => ⟨fun h => h.elim, fun ⟨_, h, _⟩ => absurd h List.not_mem_nil⟩
  | k :: l => by
    rw [Ex.occs, occs_mem]
    constructor
    · rintro (h | ⟨e, h1, h2⟩)
      · exact ⟨k, List.mem_cons_self .., h⟩
      · exact ⟨e, List.mem_cons_of_mem _ h1, h2⟩
    · rintro ⟨e, h1, h2⟩
      rcases List.mem_cons.mp h1 with q | q
      · rw [← q]; exact .inl h2
      · exact .inr ⟨e, q, h2⟩
/-! ### dicts of names -/
def setS (ks : List Str) : List (Key × V) := ks.map fun s => (Sum.inr s, V.bl true)
def addS (ks : List Str) (s : Str) : List Str := if s ∈ ks then ks else ks ++ [s]
theorem get_setS (ks : List Str) (s : Str) : valV (setS ks) (Sum.inr s) = if s ∈ ks then some (V.bl true) else none := by
  induction ks with
  | nil => rfl
  | cons x r ih =>
    unfold setS at ih ⊢
    rw [List.map_cons]
    by_cases e : x = s
    · rw [valV_pos (by rw [e]), if_pos (by rw [e]; exact List.mem_cons_self ..)]
    · rw [valV_neg (fun z => e (Sum.inr.inj z)), ih]
      by_cases h : s ∈ r
      · rw [if_pos h, if_pos (List.mem_cons_of_mem _ h)]
      · rw [if_neg h, if_neg (fun z => (List.mem_cons.mp z).elim (fun q => e q.symm) h)]
theorem put_setS (ks : List Str) (s : Str) : putK (setS ks) (Sum.inr s) (V.bl true) = setS (addS ks s) := by
  unfold addS
  by_cases h : s ∈ ks
  · rw [if_pos h]
    have e : ((setS ks).any fun kv => decide (kv.1 = (Sum.inr s : Key))) = true := by
      rw [List.any_eq_true]
      exact ⟨(Sum.inr s, V.bl true), List.mem_map.mpr ⟨s, h, rfl⟩, decide_eq_true rfl⟩
    unfold putK
    rw [if_pos e]
    unfold setS
    rw [List.map_map]
    refine List.map_congr_left fun x _ => ?_
    show (if (Sum.inr x : Key) = Sum.inr s then (Sum.inr x, V.bl true) else (Sum.inr x, V.bl true)) = _
    split <;> rfl
  · rw [if_neg h, putK_new _ (by rw [get_setS, if_neg h])]
    unfold setS
    rw [List.map_append]
    rfl
theorem mem_addS {ks : List Str} {s t : Str} : t ∈ addS ks s ↔ t ∈ ks ∨ t = s := by
  unfold addS
  split
  · next h => exact ⟨.inl, fun q => q.elim id fun e => e ▸ h⟩
  · rw [List.mem_append, List.mem_singleton]
theorem nodup_addS {ks : List Str} {s : Str} (h : ks.Nodup) : (addS ks s).Nodup := by
  unfold addS
  split
  · exact h
  · next n => exact List.nodup_append.mpr ⟨h, List.pairwise_singleton _ _, fun a ha b hb e => n (by rw [← List.mem_singleton.mp hb, ← e]; exact ha)⟩
/-- the names of a dict -/
structure SetOk (ks : List Str) (b : List Str) : Prop where
  nodup : ks.Nodup
  mem : ∀ s, s ∈ ks ↔ s ∈ b
  abc : ∀ s ∈ ks, s ∈ ABC
theorem SetOk.len {ks b : List Str} (h : SetOk ks b) : ks.length ≤ 7 := nodup_len h.nodup h.abc
theorem SetOk.add {ks b : List Str} {s : Str} (h : SetOk ks b) (hs : s ∈ ABC) : SetOk (addS ks s) (b ++ [s]) := ⟨nodup_addS h.nodup, fun t => by
  rw [mem_addS, List.mem_append, List.mem_singleton, h.mem], fun t ht => (mem_addS.mp ht).elim (h.abc t) fun e => e ▸ hs⟩
def BoundAt (H : Hp) (d : Addr) (b : List Str) : Prop := ∃ ks, H d = some (.dK (setS ks)) ∧ SetOk ks b
theorem BoundAt.same {H H' : Hp} {d : Addr} {b : List Str} (s : Same H H') : BoundAt H d b → BoundAt H' d b := fun ⟨ks, h, k⟩ => ⟨ks, s _ _ h, k⟩
end Toy

set_option Elab.async false
set_option linter.all false
set_option maxRecDepth 100000
set_option maxHeartbeats 4000000
/-! Part C: the parts of an expression. -/
namespace Toy
open PySem L2
open PyProof.Rows (envOfC)
theorem tYes_if {σ : L2.St} {H : Hp} {A B : Hp → Prop} (h : A H) : tYes σ H (fun b H3 => if b = true then A H3 else B H3) := by
  show if true = true then A H else B H
  rw [if_pos rfl]
  exact h
theorem wz (a b : Str) (h : (a == b) = false) : decide (V.str a = V.str b) = false := decide_eq_false fun e => by
  have := V.str.inj e
  rw [this, beq_self_eq_true] at h
  cases h
theorem wtt (a : Str) : decide (V.str a = V.str a) = true := decide_eq_true rfl
theorem at0 (x : V) (l : List V) : atI (x :: l) 0 = some x := atI_nat (j := 0) rfl
theorem at1 (x y : V) (l : List V) : atI (x :: y :: l) 1 = some y := atI_nat (j := 1) rfl
theorem at2 (x y z : V) (l : List V) : atI (x :: y :: z :: l) 2 = some z := atI_nat (j := 2) rfl
theorem at3 (x y z u : V) (l : List V) : atI (x :: y :: z :: u :: l) 3 = some u := atI_nat (j := 3) rfl
theorem boot_dict : bootBuiltins "dict" = some (.type "dict") := by decide +kernel
theorem boot_tuple : bootBuiltins "tuple" = some (.type "tuple") := by decide +kernel
structure TxtP (mg : Str → Option Value) : Prop where
  zdict : mg "dict" = none
  ztuple : mg "tuple" = none
  zsorted : mg "sorted" = none
  zlist : mg "list" = none
section
variable {P : Program} {w : World} {K : PySem.W.Frag} {mg : Str → Option Value} {base : Heap}
abbrev sWith : Stmt := topS 4
theorem scWith : FnScope ["bound", "names", "inner", "name"] ["bound", "names"] (defScope sWith) := ⟨rfl, rfl, rfl, by decide +kernel, rfl, by decide +kernel, by decide +kernel⟩
def spWithT : Sp := fun vs H Q _ => ∃ (d t : Addr) (ns b : List Str), vs = [.ref d, .ref t] ∧ BoundAt H d b ∧ H t = some (.tup (ns.map V.str)) ∧ (∀ s ∈ ns, s ∈ ABC) ∧ ∀ (u : Addr) (H' : Hp), Same H H' → H u = none → BoundAt H' u (b ++ ns) → Q (.ref u) H'
theorem c_withT {f : Addr} {fd : FuncData} (T : TxtP mg) (F : Fun K "with_names" "with_names" sWith f fd) (b : Binds K fd ["bound", "names"] []) (hm : mg "with_names" = some (.ref f)) : C8.Cal P w K mg base 1 "with_names" spWithT [] := by
  refine cal_of F hm b scWith (fun vs H Q E h => ?_) (fun cdv A outer s H vs Q E hr h => ?_)
  · obtain ⟨d, t, ns, b, rfl, _⟩ := h
    rfl
  obtain ⟨d, t, ns, b, rfl, ⟨ks, hd, ok⟩, ht, habc, q⟩ := h
  have hu := hu_of hr
  refine ⟨_, (pss_cons (ps_set (i := 2) scWith.nd rfl (Or.inl rfl) (pe_callTy call_dictD rfl T.zdict boot_dict (pa_cons (pv 0) pa_nil)))
    (pss_cons (ps_for PassesOwn.never rfl (pi_tup (pv 1)) (pg_name (i := 3) scWith.nd rfl (Or.inl rfl))
      (pss_one (ps_dput hu (pv 2) (pv 3) pe_bl rfl)))
    (pss_one (ps_ret (pv 2))))), ?_⟩
  refine ⟨_, rfl, d, _, rfl, .inl hd, fun u hu0 => ?_⟩
  have s0 := same_new hu0 (.dK (setS ks))
  have e0 : upd H u (.dK (setS ks)) u = some (.dK (setS ks)) := upd_same
  generalize upd H u (.dK (setS ks)) = H0 at s0 e0 ⊢
  refine ⟨_, rfl, t, rfl, ⟨_, SqT.of (s0 _ _ ht)⟩, for_tup (K := K) (a := t) (xs := ns.map V.str)
    (fun (i : Nat) σ H2 => ∃ (ks2 : List Str) (v3 : Option V), σ = [some (.ref d), some (.ref t), some (.ref u), v3] ∧ Same H H2 ∧ H2 u = some (.dK (setS ks2)) ∧ SetOk ks2 (b ++ ns.take i))
    ⟨ks, none, rfl, s0, e0, by rw [List.take_zero, List.append_nil]; exact ok⟩ (fun i σ H2 _ ⟨ks2, v3, _, s2, _⟩ => SqT.of (s2 _ _ ht)) ?_ ?_⟩
  · rintro i x σ H2 hx ⟨ks2, v3, rfl, s2, h2, ok2⟩
    obtain ⟨y, hy, ey⟩ : ∃ y, ns[i]? = some y ∧ x = .str y := by
      rw [List.getElem?_map] at hx
      cases e : ns[i]? with
      | none => rw [e] at hx; cases hx
      | some y => rw [e] at hx; exact ⟨y, rfl, (Option.some.inj hx).symm⟩
    subst ey
    refine ⟨_, rfl, _, rfl, u, _, rfl, DPut.k (k := Sum.inr y) h2 (by unfold setS; rw [List.length_map]; exact szl (by have := ok2.len; omega)), ?_⟩
    refine ⟨addS ks2 y, _, rfl, same_upd hu0 s2 _, by rw [upd_same, put_setS], ?_⟩
    rw [List.take_add_one, hy, ← List.append_assoc]
    exact ok2.add (habc y (List.mem_of_getElem? hy))
  · rintro σ H2 ⟨ks2, v3, rfl, s2, h2, ok2⟩
    rw [List.length_map, List.take_length] at ok2
    exact ⟨_, rfl, q u H2 s2 hu0 ⟨ks2, h2, ok2⟩⟩
def spWithL : Sp := fun vs H Q _ => ∃ (d t : Addr) (ns b : List Str), vs = [.ref d, .ref t] ∧ BoundAt H d b ∧ H t = some (.lst (ns.map V.str)) ∧ (∀ s ∈ ns, s ∈ ABC) ∧ ∀ (u : Addr) (H' : Hp), Same H H' → H u = none → BoundAt H' u (b ++ ns) → Q (.ref u) H'
theorem c_withL {f : Addr} {fd : FuncData} (T : TxtP mg) (F : Fun K "with_names" "with_names" sWith f fd) (b : Binds K fd ["bound", "names"] []) (hm : mg "with_names" = some (.ref f)) : C8.Cal P w K mg base 1 "with_names" spWithL [] := by
  refine cal_of F hm b scWith (fun vs H Q E h => ?_) (fun cdv A outer s H vs Q E hr h => ?_)
  · obtain ⟨d, t, ns, b, rfl, _⟩ := h
    rfl
  obtain ⟨d, t, ns, b, rfl, ⟨ks, hd, ok⟩, ht, habc, q⟩ := h
  have hu := hu_of hr
  refine ⟨_, (pss_cons (ps_set (i := 2) scWith.nd rfl (Or.inl rfl) (pe_callTy call_dictD rfl T.zdict boot_dict (pa_cons (pv 0) pa_nil)))
    (pss_cons (ps_for PassesOwn.never rfl (pi_list (pv 1)) (pg_name (i := 3) scWith.nd rfl (Or.inl rfl))
      (pss_one (ps_dput hu (pv 2) (pv 3) pe_bl rfl)))
    (pss_one (ps_ret (pv 2))))), ?_⟩
  refine ⟨_, rfl, d, _, rfl, .inl hd, fun u hu0 => ?_⟩
  have s0 := same_new hu0 (.dK (setS ks))
  have e0 : upd H u (.dK (setS ks)) u = some (.dK (setS ks)) := upd_same
  generalize upd H u (.dK (setS ks)) = H0 at s0 e0 ⊢
  refine ⟨_, rfl, t, rfl, ⟨_, SqL.of (s0 _ _ ht)⟩, for_list (K := K) (a := t) (xs := ns.map V.str)
    (fun (i : Nat) σ H2 => ∃ (ks2 : List Str) (v3 : Option V), σ = [some (.ref d), some (.ref t), some (.ref u), v3] ∧ Same H H2 ∧ H2 u = some (.dK (setS ks2)) ∧ SetOk ks2 (b ++ ns.take i))
    ⟨ks, none, rfl, s0, e0, by rw [List.take_zero, List.append_nil]; exact ok⟩ (fun i σ H2 _ ⟨ks2, v3, _, s2, _⟩ => SqL.of (s2 _ _ ht)) ?_ ?_⟩
  · rintro i x σ H2 hx ⟨ks2, v3, rfl, s2, h2, ok2⟩
    obtain ⟨y, hy, ey⟩ : ∃ y, ns[i]? = some y ∧ x = .str y := by
      rw [List.getElem?_map] at hx
      cases e : ns[i]? with
      | none => rw [e] at hx; cases hx
      | some y => rw [e] at hx; exact ⟨y, rfl, (Option.some.inj hx).symm⟩
    subst ey
    refine ⟨_, rfl, _, rfl, u, _, rfl, DPut.k (k := Sum.inr y) h2 (by unfold setS; rw [List.length_map]; exact szl (by have := ok2.len; omega)), ?_⟩
    refine ⟨addS ks2 y, _, rfl, same_upd hu0 s2 _, by rw [upd_same, put_setS], ?_⟩
    rw [List.take_add_one, hy, ← List.append_assoc]
    exact ok2.add (habc y (List.mem_of_getElem? hy))
  · rintro σ H2 ⟨ks2, v3, rfl, s2, h2, ok2⟩
    rw [List.length_map, List.take_length] at ok2
    exact ⟨_, rfl, q u H2 s2 hu0 ⟨ks2, h2, ok2⟩⟩
abbrev sDefs : Stmt := topS 1
theorem scDefs : FnScope ["declarations", "declaration"] ["declarations"] (defScope sDefs) := ⟨rfl, rfl, rfl, by decide +kernel, rfl, by decide +kernel, by decide +kernel⟩
/-- the rows that define something, in order -/
def dfn : List Ex → List Hd → List (Ex × (Str × List Str))
  | [], _ => []
  | _ :: _, [] => []
  | _ :: l, none :: hs => dfn l hs
  | e :: l, some q :: hs => (e, q) :: dfn l hs
def DfAt (H : Hp) : List (Ex × (Str × List Str)) → List V → Prop
  | [], xs => xs = []
  | q :: l, xs => ∃ r b u ys, xs = .ref r :: ys ∧ H r = some (.tup [.str "define", .str q.2.1, .ref b, u]) ∧ H b = some (.tup (q.2.2.map V.str)) ∧ NsOk q.2.2 ∧ q.1.At H u ∧ DfAt H l ys
theorem DfAt.app {H : Hp} : ∀ {l m : List (Ex × (Str × List Str))} {xs ys : List V}, DfAt H l xs → DfAt H m ys → DfAt H (l ++ m) (xs ++ ys)
  | [], m, xs, ys, h, k => by
    have z : _ = [] := h
    rw [z]; exact k
  | e :: l, m, _, ys, ⟨r, b, u, xs, e1, h1, h2, h3, h4, h5⟩, k => ⟨r, b, u, xs ++ ys, by rw [e1]; rfl, h1, h2, h3, h4, DfAt.app h5 k⟩
theorem DfAt.keep {H H' : Hp} (t : TK H H') : ∀ {l : List (Ex × (Str × List Str))} {xs : List V}, DfAt H l xs → DfAt H' l xs
  | [], _, h => h
  | q :: l, _, ⟨r, b, u, ys, e, h1, h2, h3, h4, h5⟩ => ⟨r, b, u, ys, e, t _ _ h1, t _ _ h2, h3, h4.keep t, DfAt.keep t h5⟩
theorem DfAt.len {H : Hp} : ∀ {l : List (Ex × (Str × List Str))} {xs : List V}, DfAt H l xs → xs.length = l.length
  | [], _, h => by
    have z : _ = [] := h
    rw [z]; rfl
  | q :: l, _, ⟨r, b, u, ys, e, h1, h2, h3, h4, h5⟩ => by rw [e, List.length_cons, List.length_cons, DfAt.len h5]
theorem DfAt.get {H : Hp} : ∀ {l : List (Ex × (Str × List Str))} {xs : List V} (j : Nat) {x : V}, DfAt H l xs → xs[j]? = some x → ∃ q r b u, l[j]? = some q ∧ x = .ref r ∧ H r = some (.tup [.str "define", .str q.2.1, .ref b, u]) ∧ H b = some (.tup (q.2.2.map V.str)) ∧ NsOk q.2.2 ∧ q.1.At H u
  | [], _, j, x, h, e => by
    have z : _ = [] := h
    rw [z] at e
    simp at e
  | k :: l, _, 0, x, ⟨r, b, u, ys, e1, h1, h2, h3, h4, h5⟩, e => by
    rw [e1] at e
    cases e
    exact ⟨k, r, b, u, rfl, rfl, h1, h2, h3, h4⟩
  | k :: l, _, j + 1, x, ⟨r, b, u, ys, e1, h1, h2, h3, h4, h5⟩, e => by
    rw [e1] at e
    exact DfAt.get j h5 e
theorem Ex.Rows.len {H : Hp} : ∀ {l : List Ex} {hs : List Hd} {xs : List V}, Ex.Rows H l hs xs → xs.length = l.length ∧ hs.length = l.length
  | [], _, _, ⟨h, k⟩ => by rw [h, k]; exact ⟨rfl, rfl⟩
  | e :: l, _, _, ⟨h, hs', r, ys, e1, e2, h1, h2⟩ => by
    have z := Ex.Rows.len h2
    rw [e1, e2, List.length_cons, List.length_cons, List.length_cons, z.1, z.2]
    exact ⟨rfl, rfl⟩
theorem Ex.Rows.get {H : Hp} : ∀ {l : List Ex} {hs : List Hd} {xs : List V} (j : Nat) {x : V}, Ex.Rows H l hs xs → xs[j]? = some x → ∃ e h r, l[j]? = some e ∧ hs[j]? = some h ∧ x = .ref r ∧ ((h = none ∧ ∃ w, H r = some (.tup (.str "sign" :: w))) ∨ ∃ q b u, h = some q ∧ H r = some (.tup [.str "define", .str q.1, .ref b, u]) ∧ H b = some (.tup (q.2.map V.str)) ∧ NsOk q.2 ∧ e.At H u)
  | [], _, _, j, x, ⟨h, k⟩, e => by
    rw [k] at e
    simp at e
  | k :: l, _, _, 0, x, ⟨h, hs', r, ys, e1, e2, h1, h2⟩, e => by
    rw [e2] at e
    cases e
    rw [e1]
    exact ⟨k, h, r, rfl, rfl, rfl, h1⟩
  | k :: l, _, _, j + 1, x, ⟨h, hs', r, ys, e1, e2, h1, h2⟩, e => by
    rw [e2] at e
    rw [e1]
    exact Ex.Rows.get j h2 e
theorem dfn_step : ∀ {l : List Ex} {hs : List Hd} {j : Nat} {e : Ex} {h : Hd}, l[j]? = some e → hs[j]? = some h → dfn (l.take (j + 1)) (hs.take (j + 1)) = dfn (l.take j) (hs.take j) ++ (match h with | none => [] | some q => [(e, q)])
  | [], hs, j, e, h, h1, h2 => by simp at h1
  | k :: l, [], j, e, h, h1, h2 => by simp at h2
  | k :: l, g :: hs, 0, e, h, h1, h2 => by
    cases h1
    cases h2
    cases g <;> rfl
  | k :: l, none :: hs, j + 1, e, h, h1, h2 => dfn_step (l := l) (hs := hs) (j := j) h1 h2
  | k :: l, some q :: hs, j + 1, e, h, h1, h2 => by
    have z := dfn_step (l := l) (hs := hs) (j := j) h1 h2
    show (k, q) :: dfn (l.take (j + 1)) (hs.take (j + 1)) = (k, q) :: dfn (l.take j) (hs.take j) ++ _
    rw [z]
    rfl
theorem dfn_len : ∀ (l : List Ex) (hs : List Hd), (dfn l hs).length ≤ l.length
  | [], _ => Nat.zero_le _
  | _ :: _, [] => Nat.zero_le _
  | _ :: l, none :: hs => Nat.le_succ_of_le (dfn_len l hs)
  | e :: l, some q :: hs => Nat.succ_le_succ (dfn_len l hs)
def spDefs : Sp := fun vs H Q _ => ∃ (a : Addr) (l : List Ex) (hs : List Hd) (xs : List V), vs = [.ref a] ∧ H a = some (.tup xs) ∧ Ex.Rows H l hs xs ∧ l.length ≤ 100000 ∧ ∀ (u : Addr) (ys : List V) (H' : Hp), Same H H' → H u = none → H' u = some (.lst ys) → DfAt H' (dfn l hs) ys → Q (.ref u) H'
theorem c_defs {f : Addr} {fd : FuncData} (F : Fun K "definitions_of" "definitions_of" sDefs f fd) (b : Binds K fd ["declarations"] []) (hm : mg "definitions_of" = some (.ref f)) : C8.Cal P w K mg base 1 "definitions_of" spDefs [] := by
  refine cal_of F hm b scDefs (fun vs H Q E h => ?_) (fun cdv A outer s H vs Q E hr h => ?_)
  · obtain ⟨a, l, hs, xs, rfl, _⟩ := h
    rfl
  obtain ⟨a, l, hs, xs, rfl, ha, hrows, hl, q⟩ := h
  refine ⟨_, (pss_one (ps_ret (pe_lc (own := [("declaration", 1)]) (g := gName 1) (tt := (tTest (tOp rEq (tOp (rIxT K) (tVar 1) (tC (.int 0))) (tC (.str "define"))))) rfl scDefs.nd (pi_tup (pv 0)) (blkOk_by (own := [("declaration", 1)]) (N := ["declarations", "declaration"]) (sc := defScope sDefs) (by decide +kernel)) (fun _ _ _ _ _ => (pg_name (i := 1) scDefs.nd rfl (Or.inl rfl))) (fun _ _ _ _ _ => pts_one (pt_cmpR op_eq (pe_ix ix_tup (pv 1) pe_int (fun _ _ => rfl)) pe_str (nomark _))) (fun _ _ _ _ _ => (pv 1))))), ?_⟩
  have hlen := hrows.len
  refine ⟨_, rfl, a, rfl, ⟨_, SqT.of ha⟩, fun D hD => ?_⟩
  refine lc_tup (K := K) (a := a) (xs := xs) (fun i G => ∃ ys, G D = some (.lst ys) ∧ Same H G ∧ DfAt G (dfn (l.take i) (hs.take i)) ys) ⟨[], upd_same, same_new hD _, rfl⟩ (fun i G hi ⟨ys, h1, h2, h3⟩ => SqT.of (h2 _ _ ha)) ?_ ?_
  · rintro i x G hx ⟨ys, h1, h2, h3⟩
    obtain ⟨e, h, r, g1, g2, rfl, g3⟩ := hrows.get i hx
    have hil : i < l.length := (List.getElem?_eq_some_iff.mp g1).1
    have step := dfn_step g1 g2
    have t2 := tk_same h2
    refine ⟨rfl, ?_⟩
    rcases g3 with ⟨rfl, w', g4⟩ | ⟨q', b', u, rfl, g4, g5, g6, g7⟩
    · refine ⟨_, rfl, r, _, 0, .str "sign", rfl, rfl, SqT.of (h2 _ _ g4), at0 _ _, rfl, _, rfl, ?_⟩
      show if decide (V.str "sign" = V.str "define") = true then _ else _
      rw [wz _ _ (by decide +kernel)]
      refine iteF ⟨ys, h1, h2, ?_⟩
      rw [step, List.append_nil]
      exact h3
    · refine ⟨_, rfl, r, _, 0, .str "define", rfl, rfl, SqT.of (h2 _ _ g4), at0 _ _, rfl, _, rfl, ?_⟩
      show if decide (V.str "define" = V.str "define") = true then _ else _
      rw [wtt]
      refine iteT ?_
      have t3 : TK G (upd G D (.lst (ys ++ [.ref r]))) := tk_list h1
      have hyl := h3.len
      have z1 := dfn_len (l.take i) (hs.take i)
      rw [List.length_take] at z1
      refine ⟨_, rfl, ys, h1, szl (by omega), ys ++ [.ref r], upd_same, same_upd hD h2 _, ?_⟩
      rw [step]
      exact DfAt.app (h3.keep t3) ⟨r, b', u, [], rfl, (t2.trans t3) _ _ g4, (t2.trans t3) _ _ g5, g6, g7.keep (t2.trans t3), rfl⟩
  · rintro G ⟨ys, h1, h2, h3⟩
    rw [hlen.1, List.take_length, ← hlen.2, List.take_length] at h3
    exact q D ys G h2 hD h1 h3
abbrev sPNames : Stmt := topS 2
theorem scPNames : FnScope ["pattern"] ["pattern"] (defScope sPNames) := ⟨rfl, rfl, rfl, by decide +kernel, rfl, by decide +kernel, by decide +kernel⟩
def spPNames : Sp := fun vs H Q _ => ∃ (v : V) (p : Pt), vs = [v] ∧ p.At H v ∧ ∀ (u : Addr) (H' : Hp), Same H H' → H' u = some (.tup (p.names.map V.str)) → Q (.ref u) H'
theorem c_pnames {f : Addr} {fd : FuncData} (F : Fun K "pattern_names" "pattern_names" sPNames f fd) (b : Binds K fd ["pattern"] []) (hm : mg "pattern_names" = some (.ref f)) : C8.Cal P w K mg base 1 "pattern_names" spPNames [] := by
  refine cal_of F hm b scPNames (fun vs H Q E h => ?_) (fun cdv A outer s H vs Q E hr h => ?_)
  · obtain ⟨v, p, rfl, _⟩ := h
    rfl
  obtain ⟨v, p, rfl, hp, q⟩ := h
  refine ⟨_, (pss_cons (ps_if (pt_cmpR op_eq (pe_ix ix_tup (pv 0) pe_int (fun _ _ => rfl)) pe_str (nomark _))
      (pss_one (ps_ret (pe_ix ix_tup (pv 0) pe_int (fun _ _ => rfl))))
      pss_nil)
    (pss_cons (ps_if (pt_cmpR op_eq (pe_ix ix_tup (pv 0) pe_int (fun _ _ => rfl)) pe_str (nomark _))
      (pss_one (ps_ret (pe_tup (pa_cons (pe_ix ix_tup (pv 0) pe_int (fun _ _ => rfl)) pa_nil))))
      pss_nil)
    (pss_one (ps_ret (pe_tup pa_nil))))), ?_⟩
  cases p with
  | con s ns =>
    obtain ⟨a, b', rfl, ha, hb⟩ := hp
    refine ⟨_, rfl, a, _, 0, .str "pcon", rfl, rfl, SqT.of ha, at0 _ _, rfl, _, rfl, ?_⟩
    show if decide (V.str "pcon" = V.str "pcon") = true then _ else _
    rw [wtt]
    refine iteT ?_
    exact ⟨_, rfl, a, _, 2, .ref b', rfl, rfl, SqT.of ha, at2 _ _ _ _, q b' H (fun _ _ e => e) hb⟩
  | num i =>
    obtain ⟨a, rfl, ha⟩ := hp
    refine ⟨_, rfl, a, _, 0, .str "pnum", rfl, rfl, SqT.of ha, at0 _ _, rfl, _, rfl, ?_⟩
    show if decide (V.str "pnum" = V.str "pcon") = true then _ else _
    rw [wz _ _ (by decide +kernel)]
    refine iteF ?_
    refine ⟨_, rfl, a, _, 0, .str "pnum", rfl, rfl, SqT.of ha, at0 _ _, rfl, _, rfl, ?_⟩
    show if decide (V.str "pnum" = V.str "pname") = true then _ else _
    rw [wz _ _ (by decide +kernel)]
    refine iteF ?_
    exact ⟨by show 0 ≤ sizeLine; decide, fun t ht => q t _ (same_new ht _) upd_same⟩
  | nm s =>
    obtain ⟨a, rfl, ha⟩ := hp
    refine ⟨_, rfl, a, _, 0, .str "pname", rfl, rfl, SqT.of ha, at0 _ _, rfl, _, rfl, ?_⟩
    show if decide (V.str "pname" = V.str "pcon") = true then _ else _
    rw [wz _ _ (by decide +kernel)]
    refine iteF ?_
    refine ⟨_, rfl, a, _, 0, .str "pname", rfl, rfl, SqT.of ha, at0 _ _, rfl, _, rfl, ?_⟩
    show if decide (V.str "pname" = V.str "pname") = true then _ else _
    rw [wtt]
    refine iteT ?_
    refine ⟨_, rfl, a, _, 1, .str s, rfl, rfl, SqT.of ha, at1 _ _ _, by show 1 ≤ sizeLine; decide, fun t ht => q t _ (same_new ht _) upd_same⟩
end
end Toy

set_option Elab.async false
set_option linter.all false
set_option maxRecDepth 100000
set_option maxHeartbeats 4000000
/-! Part D: plain parts; the parts with the names that are bound around them. -/
namespace Toy
open PySem L2
open PyProof.Rows (envOfC)
theorem cutN {xs : List V} {n : Nat} (h : n ≤ xs.length) : cutV xs (some (n : Int)) none = xs.drop n := by
  unfold cutV
  rw [HT.sIx_nat, HT.sIx_none, show min n xs.length = n by omega]
  exact List.take_of_length_le (by rw [List.length_drop]; omega)
theorem not0 {n : Nat} {k : Nat} (hn : 1 ≤ n) (hk : 1 ≤ k) {m : Nat} : ¬ (HT.sIx n 0 (some (k : Int)) = 0 ∧ HT.sIx n n none = m) := fun z => by
  have z1 := z.1
  rw [HT.sIx_nat] at z1
  omega
def Ex.subs : Ex → List Ex
  | .pl _ _ l => l
  | .ls l => l
  | _ => []
def Ex.plain : Ex → Bool
  | .pl _ _ _ => true
  | .ls _ => true
  | _ => false
section
variable {P : Program} {w : World} {K : PySem.W.Frag} {mg : Str → Option Value} {base : Heap}
abbrev sPlain : Stmt := topS 3
theorem scPlain : FnScope ["tree"] ["tree"] (defScope sPlain) := ⟨rfl, rfl, rfl, by decide +kernel, rfl, by decide +kernel, by decide +kernel⟩
def spPlain : Sp := fun vs H Q _ => ∃ (v : V) (e : Ex), vs = [v] ∧ e.At H v ∧ e.plain = true ∧ ∀ (u : Addr) (xs : List V) (H' : Hp), Same H H' → H' u = some (.tup xs) → Ex.Ats H' e.subs xs → Q (.ref u) H'
theorem c_plain {f : Addr} {fd : FuncData} (F : Fun K "plain_parts" "plain_parts" sPlain f fd) (b : Binds K fd ["tree"] []) (hm : mg "plain_parts" = some (.ref f)) : C8.Cal P w K mg base 1 "plain_parts" spPlain [] := by
  refine cal_of F hm b scPlain (fun vs H Q E h => ?_) (fun cdv A outer s H vs Q E hr h => ?_)
  · obtain ⟨v, e, rfl, _⟩ := h
    rfl
  obtain ⟨v, e, rfl, he, hp, q⟩ := h
  refine ⟨_, (pss_cons (ps_if (pt_cmpR op_eq (pe_ix ix_tup (pv 0) pe_int (fun _ _ => rfl)) pe_str (nomark _))
      (pss_one (ps_ret (pe_slice sl_tupA (pv 0) (po_some pe_int) po_none)))
      pss_nil)
    (pss_cons (ps_if (pt_cmpR op_in_seq (pe_ix ix_tup (pv 0) pe_int (fun _ _ => rfl)) (pe_tup (pa_cons pe_str (pa_cons pe_str pa_nil))) rfl)
      (pss_one (ps_ret (pe_slice sl_tupA (pv 0) (po_some pe_int) po_none)))
      pss_nil)
    (pss_cons (ps_if (pt_cmpR op_eq (pe_ix ix_tup (pv 0) pe_int (fun _ _ => rfl)) pe_str (nomark _))
      (pss_one (ps_ret (pe_slice sl_tupA (pv 0) (po_some pe_int) po_none)))
      pss_nil)
    (pss_cons (ps_if (pt_cmpR op_eq (pe_ix ix_tup (pv 0) pe_int (fun _ _ => rfl)) pe_str (nomark _))
      (pss_one (ps_ret (pe_ix ix_tup (pv 0) pe_int (fun _ _ => rfl))))
      pss_nil)
    (pss_one (ps_ret (pe_tup pa_nil))))))), ?_⟩
  cases e with
  | var s => cases hp
  | lam ns e => cases hp
  | lt hs l e => cases hp
  | cs e ps l => cases hp
  | ls l =>
    obtain ⟨a, b', xs, rfl, ha, hb, hats⟩ := he
    refine ⟨_, rfl, a, _, 0, .str "list", rfl, rfl, SqT.of ha, at0 _ _, rfl, _, rfl, ?_⟩
    show if decide (V.str "list" = V.str "app") = true then _ else _
    rw [wz _ _ (by decide +kernel)]
    refine iteF ?_
    refine ⟨_, rfl, a, _, 0, .str "list", rfl, rfl, SqT.of ha, at0 _ _, by show 2 ≤ sizeLine; decide, fun t ht => ?_⟩
    have s1 := same_new ht (.tup [.str "op", .str "note"])
    refine ⟨t, _, rfl, .inr (SqT.of upd_same), rfl, rfl, _, rfl, ?_⟩
    have hz : inV (.str "list") [.str "op", .str "note"] = false := by decide +kernel
    show if inV (.str "list") [.str "op", .str "note"] = true then _ else _
    rw [hz]
    refine iteF ?_
    refine ⟨_, rfl, a, _, 0, .str "list", rfl, rfl, SqT.of (s1 _ _ ha), at0 _ _, rfl, _, rfl, ?_⟩
    show if decide (V.str "list" = V.str "if") = true then _ else _
    rw [wz _ _ (by decide +kernel)]
    refine iteF ?_
    refine ⟨_, rfl, a, _, 0, .str "list", rfl, rfl, SqT.of (s1 _ _ ha), at0 _ _, rfl, _, rfl, ?_⟩
    show if decide (V.str "list" = V.str "list") = true then _ else _
    rw [wtt]
    refine iteT ?_
    exact ⟨_, rfl, a, _, 1, .ref b', rfl, rfl, SqT.of (s1 _ _ ha), at1 _ _ _, q b' xs _ s1 (s1 _ _ hb) (hats.keep (tk_same s1))⟩
  | pl w o l =>
    obtain ⟨a, xs, rfl, ha, hats, hok⟩ := he
    have first : ∀ {n : Nat}, HT.sIx ((.str w :: (o.toList ++ xs) : List V)).length 0 (some (((n + 1 : Nat) : Int))) ≠ 0 := fun {n} z => by
      rw [HT.sIx_nat, List.length_cons] at z
      omega
    refine ⟨_, rfl, a, _, 0, .str w, rfl, rfl, SqT.of ha, at0 _ _, rfl, _, rfl, ?_⟩
    rcases hok with ⟨hw, ⟨sc, rfl⟩, hl⟩ | ⟨hw, rfl, hl⟩ | ⟨hw, ⟨sc, rfl⟩, hl⟩
    · have z1 : decide (V.str w = V.str "app") = false := by rcases hw with rfl | rfl <;> exact wz _ _ (by decide +kernel)
      have z2 : inV (.str w) [.str "op", .str "note"] = false := by rcases hw with rfl | rfl <;> decide +kernel
      have z3 : decide (V.str w = V.str "if") = false := by rcases hw with rfl | rfl <;> exact wz _ _ (by decide +kernel)
      have z4 : decide (V.str w = V.str "list") = false := by rcases hw with rfl | rfl <;> exact wz _ _ (by decide +kernel)
      show if decide (V.str w = V.str "app") = true then _ else _
      rw [z1]
      refine iteF ?_
      refine ⟨_, rfl, a, _, 0, .str w, rfl, rfl, SqT.of ha, at0 _ _, by show 2 ≤ sizeLine; decide, fun t ht => ?_⟩
      have s1 := same_new ht (.tup [.str "op", .str "note"])
      refine ⟨t, _, rfl, .inr (SqT.of upd_same), rfl, rfl, _, rfl, ?_⟩
      show if inV (.str w) [.str "op", .str "note"] = true then _ else _
      rw [z2]
      refine iteF ?_
      refine ⟨_, rfl, a, _, 0, .str w, rfl, rfl, SqT.of (s1 _ _ ha), at0 _ _, rfl, _, rfl, ?_⟩
      show if decide (V.str w = V.str "if") = true then _ else _
      rw [z3]
      refine iteF ?_
      refine ⟨_, rfl, a, _, 0, .str w, rfl, rfl, SqT.of (s1 _ _ ha), at0 _ _, rfl, _, rfl, ?_⟩
      show if decide (V.str w = V.str "list") = true then _ else _
      rw [z4]
      refine iteF ?_
      have el : l = [] := List.length_eq_zero_iff.mp hl
      subst el
      exact ⟨by show 0 ≤ sizeLine; decide, fun u hu => q u [] _ (fun b o e => same_new hu _ _ _ (s1 _ _ e)) upd_same rfl⟩
    · have cut : ∀ n : Nat, n = 1 → cutV (.str w :: ((none : Option V).toList ++ xs)) (some (n : Int)) none = xs := fun n hn => by
        subst hn
        rw [cutN (by rw [List.length_cons]; omega)]
        rfl
      rcases hw with rfl | rfl
      · show if decide (V.str "app" = V.str "app") = true then _ else _
        rw [wtt]
        refine iteT ?_
        refine ⟨_, rfl, 1, rfl, a, _, rfl, SqT.of ha, fun z => (first (n := 0) z.1).elim, fun _ u hu => ?_⟩
        rw [show (1 : Int) = ((1 : Nat) : Int) from rfl, cut 1 rfl]
        exact q u xs _ (same_new hu _) upd_same (hats.keep (tk_new hu))
      · have z2 : inV (.str "if") [.str "op", .str "note"] = false := by decide +kernel
        show if decide (V.str "if" = V.str "app") = true then _ else _
        rw [wz _ _ (by decide +kernel)]
        refine iteF ?_
        refine ⟨_, rfl, a, _, 0, .str "if", rfl, rfl, SqT.of ha, at0 _ _, by show 2 ≤ sizeLine; decide, fun t ht => ?_⟩
        have s1 := same_new ht (.tup [.str "op", .str "note"])
        refine ⟨t, _, rfl, .inr (SqT.of upd_same), rfl, rfl, _, rfl, ?_⟩
        show if inV (.str "if") [.str "op", .str "note"] = true then _ else _
        rw [z2]
        refine iteF ?_
        refine ⟨_, rfl, a, _, 0, .str "if", rfl, rfl, SqT.of (s1 _ _ ha), at0 _ _, rfl, _, rfl, ?_⟩
        show if decide (V.str "if" = V.str "if") = true then _ else _
        rw [wtt]
        refine iteT ?_
        refine ⟨_, rfl, 1, rfl, a, _, rfl, SqT.of (s1 _ _ ha), fun z => (first (n := 0) z.1).elim, fun _ u hu => ?_⟩
        rw [show (1 : Int) = ((1 : Nat) : Int) from rfl, cut 1 rfl]
        exact q u xs _ (fun b o e => same_new hu _ _ _ (s1 _ _ e)) upd_same ((hats.keep (tk_same s1)).keep (tk_new hu))
    · have z1 : decide (V.str w = V.str "app") = false := by rcases hw with rfl | rfl <;> exact wz _ _ (by decide +kernel)
      have z2 : inV (.str w) [.str "op", .str "note"] = true := by rcases hw with rfl | rfl <;> decide +kernel
      show if decide (V.str w = V.str "app") = true then _ else _
      rw [z1]
      refine iteF ?_
      refine ⟨_, rfl, a, _, 0, .str w, rfl, rfl, SqT.of ha, at0 _ _, by show 2 ≤ sizeLine; decide, fun t ht => ?_⟩
      have s1 := same_new ht (.tup [.str "op", .str "note"])
      refine ⟨t, _, rfl, .inr (SqT.of upd_same), rfl, rfl, _, rfl, ?_⟩
      show if inV (.str w) [.str "op", .str "note"] = true then _ else _
      rw [z2]
      refine iteT ?_
      refine ⟨_, rfl, 2, rfl, a, _, rfl, SqT.of (s1 _ _ ha), fun z => (first (n := 1) z.1).elim, fun _ u hu => ?_⟩
      have cut : cutV (.str w :: ((some sc : Option V).toList ++ xs)) (some ((2 : Nat) : Int)) none = xs := by
        rw [cutN (by rw [List.length_cons, List.length_append]; show 2 ≤ (1 + xs.length) + 1; omega)]
        rfl
      rw [show (2 : Int) = ((2 : Nat) : Int) from rfl, cut]
      exact q u xs _ (fun b o e => same_new hu _ _ _ (s1 _ _ e)) upd_same ((hats.keep (tk_same s1)).keep (tk_new hu))
end
/-! ### the parts, with the names that are bound around each -/
def altO (b : List Str) : List Ex → List Pt → List (Ex × List Str)
  | [], _ => []
  | _ :: _, [] => []
  | e :: l, p :: ps => (e, b ++ p.names) :: altO b l ps
def Ex.open (b : List Str) : Ex → List (Ex × List Str)
  | .var _ => []
  | .pl _ _ l => l.map (·, b)
  | .ls l => l.map (·, b)
  | .lam ns e => [(e, b ++ ns)]
  | .lt hs l e => (dfn l hs).map (fun q => (q.1, (b ++ defs hs) ++ q.2.2)) ++ [(e, b ++ defs hs)]
  | .cs e ps l => (e, b) :: altO b l ps
def Ex.isVar : Ex → Bool
  | .var _ => true
  | _ => false
def freeIn (s : Str) (L : List (Ex × List Str)) : Prop := ∃ q ∈ L, q.1.occ s ∧ s ∉ q.2
theorem free_app {s : Str} {a b : List (Ex × List Str)} : freeIn s (a ++ b) ↔ freeIn s a ∨ freeIn s b := by
  constructor
  · rintro ⟨q, h, k⟩
    exact (List.mem_append.mp h).elim (fun z => .inl ⟨q, z, k⟩) fun z => .inr ⟨q, z, k⟩
  · rintro (⟨q, h, k⟩ | ⟨q, h, k⟩)
    · exact ⟨q, List.mem_append_left _ h, k⟩
    · exact ⟨q, List.mem_append_right _ h, k⟩
theorem free_one {s : Str} {q : Ex × List Str} : freeIn s [q] ↔ q.1.occ s ∧ s ∉ q.2 := ⟨fun ⟨p, h, k⟩ => by rw [List.mem_singleton.mp h] at k; exact k, fun h => ⟨q, List.mem_singleton.mpr rfl, h⟩⟩
theorem free_plain {s : Str} {b : List Str} {l : List Ex} : freeIn s (l.map (·, b)) ↔ Ex.occs s l ∧ s ∉ b := by
  rw [occs_mem]
  constructor
  · rintro ⟨q, h, k⟩
    obtain ⟨e, he, eq⟩ := List.mem_map.mp h
    subst eq
    exact ⟨⟨e, he, k.1⟩, k.2⟩
  · rintro ⟨⟨e, he, k⟩, n⟩
    exact ⟨(e, b), List.mem_map.mpr ⟨e, he, rfl⟩, k, n⟩
theorem free_rows {s : Str} {c : List Str} : ∀ (l : List Ex) (hs : List Hd), freeIn s ((dfn l hs).map fun q => (q.1, c ++ q.2.2)) ↔ Ex.occR s l hs ∧ s ∉ c
  | [], _ => ⟨fun ⟨q, h, _⟩ => absurd h List.not_mem_nil, fun h => by
    have h : False ∧ _ := h
    exact h.1.elim⟩
  | _ :: _, [] => ⟨fun ⟨q, h, _⟩ => absurd h List.not_mem_nil, fun h => by
    have h : False ∧ _ := h
    exact h.1.elim⟩
  | _ :: l, none :: hs => free_rows l hs
  | e :: l, some q :: hs => by
    have ih := free_rows (s := s) (c := c) l hs
    show freeIn s ([(e, c ++ q.2)] ++ (dfn l hs).map fun q => (q.1, c ++ q.2.2)) ↔ ((s ∉ q.2 ∧ e.occ s) ∨ Ex.occR s l hs) ∧ s ∉ c
    rw [free_app, free_one, ih, List.mem_append]
    constructor
    · rintro (⟨h1, h2⟩ | ⟨h1, h2⟩)
      · exact ⟨.inl ⟨fun z => h2 (.inr z), h1⟩, fun z => h2 (.inl z)⟩
      · exact ⟨.inr h1, h2⟩
    · rintro ⟨⟨h1, h2⟩ | h1, h3⟩
      · exact .inl ⟨h2, fun z => z.elim h3 h1⟩
      · exact .inr ⟨h1, h3⟩
theorem free_alts {s : Str} {b : List Str} : ∀ (l : List Ex) (ps : List Pt), freeIn s (altO b l ps) ↔ Ex.occA s l ps ∧ s ∉ b
  | [], _ => ⟨fun ⟨q, h, _⟩ => absurd h List.not_mem_nil, fun h => by
    have h : False ∧ _ := h
    exact h.1.elim⟩
  | _ :: _, [] => ⟨fun ⟨q, h, _⟩ => absurd h List.not_mem_nil, fun h => by
    have h : False ∧ _ := h
    exact h.1.elim⟩
  | e :: l, p :: ps => by
    have ih := free_alts (s := s) (b := b) l ps
    show freeIn s ([(e, b ++ p.names)] ++ altO b l ps) ↔ ((s ∉ p.names ∧ e.occ s) ∨ Ex.occA s l ps) ∧ s ∉ b
    rw [free_app, free_one, ih, List.mem_append]
    constructor
    · rintro (⟨h1, h2⟩ | ⟨h1, h2⟩)
      · exact ⟨.inl ⟨fun z => h2 (.inr z), h1⟩, fun z => h2 (.inl z)⟩
      · exact ⟨.inr h1, h2⟩
    · rintro ⟨⟨h1, h2⟩ | h1, h3⟩
      · exact .inl ⟨h2, fun z => z.elim h3 h1⟩
      · exact .inr ⟨h1, h3⟩
theorem free_open {s : Str} {b : List Str} : ∀ e : Ex, e.isVar = false → (freeIn s (e.open b) ↔ e.occ s ∧ s ∉ b)
  | .var _, h => by cases h
  | .pl _ _ l, _ => free_plain
  | .ls l, _ => free_plain
  | .lam ns e, _ => by
    show freeIn s [(e, b ++ ns)] ↔ (s ∉ ns ∧ e.occ s) ∧ s ∉ b
    rw [free_one, List.mem_append]
    exact ⟨fun ⟨h1, h2⟩ => ⟨⟨fun z => h2 (.inr z), h1⟩, fun z => h2 (.inl z)⟩, fun ⟨⟨h1, h2⟩, h3⟩ => ⟨h2, fun z => z.elim h3 h1⟩⟩
  | .lt hs l e, _ => by
    show freeIn s ((dfn l hs).map (fun q => (q.1, (b ++ defs hs) ++ q.2.2)) ++ [(e, b ++ defs hs)]) ↔ (s ∉ defs hs ∧ (Ex.occR s l hs ∨ e.occ s)) ∧ s ∉ b
    rw [free_app, free_one, free_rows, List.mem_append]
    constructor
    · rintro (⟨h1, h2⟩ | ⟨h1, h2⟩)
      · exact ⟨⟨fun z => h2 (.inr z), .inl h1⟩, fun z => h2 (.inl z)⟩
      · exact ⟨⟨fun z => h2 (.inr z), .inr h1⟩, fun z => h2 (.inl z)⟩
    · rintro ⟨⟨h1, h2⟩, h3⟩
      exact h2.elim (fun z => .inl ⟨z, fun q => q.elim h3 h1⟩) fun z => .inr ⟨z, fun q => q.elim h3 h1⟩
  | .cs e ps l, _ => by
    show freeIn s ([(e, b)] ++ altO b l ps) ↔ (e.occ s ∨ Ex.occA s l ps) ∧ s ∉ b
    rw [free_app, free_one, free_alts]
    constructor
    · rintro (⟨h1, h2⟩ | ⟨h1, h2⟩)
      · exact ⟨.inl h1, h2⟩
      · exact ⟨.inr h1, h2⟩
    · rintro ⟨h1 | h1, h3⟩
      · exact .inl ⟨h1, h3⟩
      · exact .inr ⟨h1, h3⟩
/-- how much is left to look at -/
def osum : List (Ex × List Str) → Nat
  | [] => 0
  | q :: L => q.1.size + osum L
theorem osum_app : ∀ a b, osum (a ++ b) = osum a + osum b
  | [], b => by rw [List.nil_append, osum, Nat.zero_add]
  | q :: a, b => by rw [List.cons_append, osum, osum, osum_app a b, Nat.add_assoc]
theorem osum_plain (b : List Str) : ∀ l : List Ex, osum (l.map (·, b)) = Ex.sizes l
  | [] => rfl
  | e :: l => by
    show e.size + osum (l.map (·, b)) = _
    rw [osum_plain b l]
    rfl
theorem osum_rows (c : List Str) : ∀ (l : List Ex) (hs : List Hd), osum ((dfn l hs).map fun q => (q.1, c ++ q.2.2)) ≤ Ex.sizes l
  | [], _ => Nat.zero_le _
  | _ :: _, [] => Nat.zero_le _
  | e :: l, none :: hs => by
    have := osum_rows c l hs
    show osum ((dfn l hs).map fun q => (q.1, c ++ q.2.2)) ≤ e.size + Ex.sizes l
    omega
  | e :: l, some q :: hs => by
    have := osum_rows c l hs
    show e.size + osum ((dfn l hs).map fun q => (q.1, c ++ q.2.2)) ≤ e.size + Ex.sizes l
    omega
theorem osum_alts (b : List Str) : ∀ (l : List Ex) (ps : List Pt), osum (altO b l ps) ≤ Ex.sizes l
  | [], _ => Nat.zero_le _
  | _ :: _, [] => Nat.zero_le _
  | e :: l, p :: ps => by
    have := osum_alts b l ps
    show e.size + osum (altO b l ps) ≤ e.size + Ex.sizes l
    omega
theorem osum_open (b : List Str) : ∀ e : Ex, osum (e.open b) < e.size
  | .var _ => Nat.one_pos
  | .pl _ _ l => by
    have := osum_plain b l
    show osum (l.map (·, b)) < 1 + Ex.sizes l
    omega
  | .ls l => by
    have := osum_plain b l
    show osum (l.map (·, b)) < 1 + Ex.sizes l
    omega
  | .lam ns e => by show e.size + 0 < 1 + e.size; omega
  | .lt hs l e => by
    have := osum_rows (b ++ defs hs) l hs
    show osum (((dfn l hs).map fun q => (q.1, (b ++ defs hs) ++ q.2.2)) ++ [(e, b ++ defs hs)]) < 1 + Ex.sizes l + e.size
    rw [osum_app]
    show _ + (e.size + 0) < _
    omega
  | .cs e ps l => by
    have := osum_alts b l ps
    show e.size + osum (altO b l ps) < 1 + e.size + Ex.sizes l
    omega
theorem osum_len : ∀ L : List (Ex × List Str), L.length ≤ osum L
  | [] => Nat.le_refl _
  | q :: L => by
    have := osum_len L
    have := q.1.size_pos
    show L.length + 1 ≤ q.1.size + osum L
    omega
theorem altO_len (b : List Str) : ∀ (l : List Ex) (ps : List Pt), (altO b l ps).length ≤ l.length
  | [], _ => Nat.zero_le _
  | _ :: _, [] => Nat.zero_le _
  | e :: l, p :: ps => Nat.succ_le_succ (altO_len b l ps)
theorem altO_step (b : List Str) : ∀ {l : List Ex} {ps : List Pt} {j : Nat} {e : Ex} {p : Pt}, l[j]? = some e → ps[j]? = some p → altO b (l.take (j + 1)) (ps.take (j + 1)) = altO b (l.take j) (ps.take j) ++ [(e, b ++ p.names)]
  | [], ps, j, e, p, h1, h2 => by simp at h1
  | k :: l, [], j, e, p, h1, h2 => by simp at h2
  | k :: l, g :: ps, 0, e, p, h1, h2 => by
    cases h1
    cases h2
    rfl
  | k :: l, g :: ps, j + 1, e, p, h1, h2 => by
    have z := altO_step b (l := l) (ps := ps) (j := j) h1 h2
    show (k, b ++ g.names) :: altO b (l.take (j + 1)) (ps.take (j + 1)) = (k, b ++ g.names) :: altO b (l.take j) (ps.take j) ++ _
    rw [z]
    rfl
theorem Ex.Alts.len {H : Hp} : ∀ {l : List Ex} {ps : List Pt} {xs : List V}, Ex.Alts H l ps xs → xs.length = l.length ∧ ps.length = l.length
  | [], _, _, ⟨h, k⟩ => by rw [h, k]; exact ⟨rfl, rfl⟩
  | e :: l, _, _, ⟨p, ps', r, pv, u, ys, e1, e2, h1, h2, h3, h4, h5⟩ => by
    have z := Ex.Alts.len h5
    rw [e1, e2, List.length_cons, List.length_cons, List.length_cons, z.1, z.2]
    exact ⟨rfl, rfl⟩
theorem Ex.Alts.get {H : Hp} : ∀ {l : List Ex} {ps : List Pt} {xs : List V} (j : Nat) {x : V}, Ex.Alts H l ps xs → xs[j]? = some x → ∃ e p r pv u, l[j]? = some e ∧ ps[j]? = some p ∧ x = .ref r ∧ H r = some (.tup [pv, u]) ∧ p.At H pv ∧ NsOk p.names ∧ e.At H u
  | [], _, _, j, x, ⟨h, k⟩, e => by
    rw [k] at e
    simp at e
  | k :: l, _, _, 0, x, ⟨p, ps', r, pv, u, ys, e1, e2, h1, h2, h3, h4, h5⟩, e => by
    rw [e2] at e
    cases e
    rw [e1]
    exact ⟨k, p, r, pv, u, rfl, rfl, rfl, h1, h2, h3, h4⟩
  | k :: l, _, _, j + 1, x, ⟨p, ps', r, pv, u, ys, e1, e2, h1, h2, h3, h4, h5⟩, e => by
    rw [e2] at e
    rw [e1]
    exact Ex.Alts.get j h5 e
/-! ### a task: an expression and a dict -/
def TaskAt (ok : Addr → Prop) (H : Hp) (q : Ex × List Str) (x : V) : Prop := ∃ t v d, x = .ref t ∧ H t = some (.tup [v, .ref d]) ∧ q.1.At H v ∧ BoundAt H d q.2 ∧ ok d
def TasksAt (ok : Addr → Prop) (H : Hp) : List (Ex × List Str) → List V → Prop
  | [], xs => xs = []
  | q :: L, xs => ∃ x ys, xs = x :: ys ∧ TaskAt ok H q x ∧ TasksAt ok H L ys
theorem TaskAt.same {ok : Addr → Prop} {H H' : Hp} {q : Ex × List Str} {x : V} (s : Same H H') : TaskAt ok H q x → TaskAt ok H' q x := fun ⟨t, v, d, e, h1, h2, h3, h4⟩ => ⟨t, v, d, e, s _ _ h1, h2.keep (tk_same s), h3.same s, h4⟩
theorem TasksAt.same {ok : Addr → Prop} {H H' : Hp} (s : Same H H') : ∀ {L : List (Ex × List Str)} {xs : List V}, TasksAt ok H L xs → TasksAt ok H' L xs
  | [], _, h => h
  | q :: L, _, ⟨x, ys, e, h1, h2⟩ => ⟨x, ys, e, h1.same s, TasksAt.same s h2⟩
theorem TasksAt.app {ok : Addr → Prop} {H : Hp} : ∀ {L M : List (Ex × List Str)} {xs ys : List V}, TasksAt ok H L xs → TasksAt ok H M ys → TasksAt ok H (L ++ M) (xs ++ ys)
  | [], M, xs, ys, h, k => by
    have z : _ = [] := h
    rw [z]; exact k
  | q :: L, M, _, ys, ⟨x, xs, e, h1, h2⟩, k => ⟨x, xs ++ ys, by rw [e]; rfl, h1, TasksAt.app h2 k⟩
theorem TasksAt.len {ok : Addr → Prop} {H : Hp} : ∀ {L : List (Ex × List Str)} {xs : List V}, TasksAt ok H L xs → xs.length = L.length
  | [], _, h => by
    have z : _ = [] := h
    rw [z]; rfl
  | q :: L, _, ⟨x, ys, e, h1, h2⟩ => by rw [e, List.length_cons, List.length_cons, TasksAt.len h2]
theorem TasksAt.imp {ok ok' : Addr → Prop} {H : Hp} (h : ∀ d, ok d → ok' d) : ∀ {L : List (Ex × List Str)} {xs : List V}, TasksAt ok H L xs → TasksAt ok' H L xs
  | [], _, k => k
  | q :: L, _, ⟨x, ys, e, ⟨t, v, d, e1, h1, h2, h3, h4⟩, k⟩ => ⟨x, ys, e, ⟨t, v, d, e1, h1, h2, h3, h d h4⟩, TasksAt.imp h k⟩
theorem dfn_names : ∀ (l : List Ex) (hs : List Hd), hs.length = l.length → (dfn l hs).map (·.2.1) = defs hs
  | [], [], _ => rfl
  | [], _ :: _, h => by cases h
  | _ :: _, [], h => by cases h
  | _ :: l, none :: hs, h => dfn_names l hs (Nat.succ.inj h)
  | e :: l, some q :: hs, h => by
    show q.1 :: (dfn l hs).map (·.2.1) = q.1 :: defs hs
    rw [dfn_names l hs (Nat.succ.inj h)]
theorem sameT {H1 H2 H3 : Hp} (a : Same H1 H2) (b : Same H2 H3) : Same H1 H3 := fun x o e => b x o (a x o e)
theorem wne {a b : Str} (h : a ≠ b) : decide (V.str a = V.str b) = false := decide_eq_false fun e => h (V.str.inj e)
theorem Ex.At.head {H : Hp} : ∀ {e : Ex} {v : V}, e.At H v → e.plain = true → ∃ a w r, v = .ref a ∧ H a = some (.tup (.str w :: r)) ∧ w ≠ "lam" ∧ w ≠ "let" ∧ w ≠ "case"
  | .pl w o l, _, ⟨a, xs, e, h, h1, h2⟩, _ => by
    refine ⟨a, w, _, e, h, ?_⟩
    rcases h2 with ⟨hw, _⟩ | ⟨hw, _⟩ | ⟨hw, _⟩ <;> rcases hw with rfl | rfl <;> decide +kernel
  | .ls l, _, ⟨a, b, xs, e, h, h1, h2⟩, _ => ⟨a, "list", _, e, h, by decide +kernel⟩
theorem Ex.open_plain {b : List Str} : ∀ e : Ex, e.plain = true → e.open b = e.subs.map (·, b)
  | .pl w o l, _ => rfl
  | .ls l, _ => rfl
theorem Ex.subs_size : ∀ e : Ex, e.plain = true → e.size = 1 + Ex.sizes e.subs
  | .pl w o l, _ => rfl
  | .ls l, _ => rfl
/-- a list is written: the tasks stay -/
theorem TaskAt.off {ok : Addr → Prop} {H : Hp} {q : Ex × List Str} {x : V} {D : Addr} {ys : List V} {o : HO} (hD : H D = some (.lst ys)) : TaskAt ok H q x → TaskAt ok (upd H D o) q x := fun ⟨t, v, d, e, h1, h2, ⟨ks, h3, h4⟩, h5⟩ =>
  ⟨t, v, d, e, by rw [upd_ne (fun z => by rw [z, hD] at h1; cases h1)]; exact h1, h2.keep (tk_list hD), ⟨ks, by rw [upd_ne (fun z => by rw [z, hD] at h3; cases h3)]; exact h3, h4⟩, h5⟩
theorem TasksAt.off {ok : Addr → Prop} {H : Hp} {D : Addr} {ys : List V} {o : HO} (hD : H D = some (.lst ys)) : ∀ {L : List (Ex × List Str)} {xs : List V}, TasksAt ok H L xs → TasksAt ok (upd H D o) L xs
  | [], _, h => h
  | q :: L, _, ⟨x, zs, e, h1, h2⟩ => ⟨x, zs, e, h1.off hD, TasksAt.off hD h2⟩
section
variable {P : Program} {w : World} {K : PySem.W.Frag} {mg : Str → Option Value} {base : Heap}
abbrev sParts : Stmt := topS 7
theorem scParts : FnScope ["tree", "bound", "definitions", "inner", "bodies", "part", "_", "parameters", "body", "pattern", "definition"] ["tree", "bound"] (defScope sParts) := ⟨rfl, rfl, rfl, by decide +kernel, rfl, by decide +kernel, by decide +kernel⟩
def spParts : Sp := fun vs H Q _ => ∃ (v : V) (d : Addr) (e : Ex) (b : List Str), vs = [v, .ref d] ∧ e.At H v ∧ BoundAt H d b ∧ e.isVar = false ∧ e.size ≤ 100000 ∧ ∀ (p : Addr) (xs : List V) (H' : Hp), Same H H' → H p = none → H' p = some (.lst xs) → TasksAt (fun x => x = d ∨ H x = none) H' (e.open b) xs → Q (.ref p) H'
theorem c_parts {f : Addr} {fd : FuncData} (cwith_names : C8.Cal P w K mg base 1 "with_names" spWithT []) (cwithL : C8.Cal P w K mg base 1 "with_names" spWithL []) (cdefinitions_of : C8.Cal P w K mg base 1 "definitions_of" spDefs []) (cpattern_names : C8.Cal P w K mg base 1 "pattern_names" spPNames []) (cplain_parts : C8.Cal P w K mg base 1 "plain_parts" spPlain [])
    (F : Fun K "_parts" "_parts" sParts f fd) (b : Binds K fd ["tree", "bound"] []) (hm : mg "_parts" = some (.ref f)) : C8.Cal P w K mg base 2 "_parts" spParts [] := by
  refine cal_of F hm b scParts (fun vs H Q E h => ?_) (fun cdv A outer s H vs Q E hr h => ?_)
  · obtain ⟨v, d, e, b, rfl, _⟩ := h
    rfl
  obtain ⟨v, d, e, b, rfl, he, hB, hnv, hsz, q⟩ := h
  refine ⟨_, (pss_cons (ps_if (pt_cmpR op_eq (pe_ix ix_tup (pv 0) pe_int (fun _ _ => rfl)) pe_str (nomark _))
      (pss_one (ps_ret (pe_lst (pa_cons (pe_tup (pa_cons (pe_ix ix_tup (pv 0) pe_int (fun _ _ => rfl)) (pa_cons (C8.pe_c cwith_names hr (by decide) rfl (pa_cons (pv 1) (pa_cons (pe_ix ix_tup (pv 0) pe_int (fun _ _ => rfl)) pa_nil))) pa_nil))) pa_nil))))
      pss_nil)
    (pss_cons (ps_if (pt_cmpR op_eq (pe_ix ix_tup (pv 0) pe_int (fun _ _ => rfl)) pe_str (nomark _))
      (pss_cons (ps_set (i := 2) scParts.nd rfl (Or.inl rfl) (C8.pe_c cdefinitions_of hr (by decide) rfl (pa_cons (pe_ix ix_tup (pv 0) pe_int (fun _ _ => rfl)) pa_nil)))
    (pss_cons (ps_set (i := 3) scParts.nd rfl (Or.inr rfl) (C8.pe_c cwithL hr (by decide) rfl (pa_cons (pv 1) (pa_cons (pe_lc (own := [("definition", 10)]) (g := gName 10) (tt := tYes) (te := (tOp (rIxT K) (tVar 10) (tC (.int 1)))) rfl scParts.nd (pi_list (pv 2)) (blkOk_by (own := [("definition", 10)]) (N := ["tree", "bound", "definitions", "inner", "bodies", "part", "_", "parameters", "body", "pattern", "definition"]) (sc := defScope sParts) (by decide +kernel)) (fun _ _ _ _ _ => (pg_name (i := 10) scParts.nd rfl (Or.inl rfl))) (fun _ _ _ _ _ => pts_nil) (fun _ _ _ _ _ => (pe_ix ix_tup (pv 10) pe_int (fun _ _ => rfl)))) pa_nil))))
    (pss_cons (ps_setLc (i := 4) (own := [("_", 6), ("parameters", 7), ("body", 8)]) (g := gTup K 4 (gCons (gName 6) (gCons (gName 6) (gCons (gName 7) (gCons (gName 8) (gNil)))))) (tt := tYes) rfl scParts.nd rfl rfl (sw_true rfl rfl rfl (by decide +kernel)) (pi_list (pv 2)) (blkOk_by (own := [("_", 6), ("parameters", 7), ("body", 8)]) (N := ["tree", "bound", "definitions", "inner", "bodies", "part", "_", "parameters", "body", "pattern", "definition"]) (sc := defScope sParts) (by decide +kernel)) (fun _ _ _ _ _ => (pg_tup rfl (pgs_cons (pg_name (i := 6) scParts.nd rfl (Or.inl rfl)) (pgs_cons (pg_name (i := 6) scParts.nd rfl (Or.inl rfl)) (pgs_cons (pg_name (i := 7) scParts.nd rfl (Or.inl rfl)) (pgs_cons (pg_name (i := 8) scParts.nd rfl (Or.inl rfl)) pgs_nil)))))) (fun _ _ _ _ _ => pts_nil) (fun _ _ _ _ _ => (pe_tup (pa_cons (pv 8) (pa_cons (C8.pe_c cwith_names hr (by decide) rfl (pa_cons (pv 3) (pa_cons (pv 7) pa_nil))) pa_nil)))))
    (pss_one (ps_ret (pe_lst (StX.pa_star (pv 4) (pa_cons (pe_tup (pa_cons (pe_ix ix_tup (pv 0) pe_int (fun _ _ => rfl)) (pa_cons (pv 3) pa_nil))) pa_nil))))))))
      pss_nil)
    (pss_cons (ps_if (pt_cmpR op_eq (pe_ix ix_tup (pv 0) pe_int (fun _ _ => rfl)) pe_str (nomark _))
      (pss_cons (ps_setLc (i := 4) (own := [("pattern", 9), ("body", 8)]) (g := gTup K 2 (gCons (gName 9) (gCons (gName 8) (gNil)))) (tt := tYes) rfl scParts.nd rfl rfl (sw_true rfl rfl rfl (by decide +kernel)) (pi_tup (pe_ix ix_tup (pv 0) pe_int (fun _ _ => rfl))) (blkOk_by (own := [("pattern", 9), ("body", 8)]) (N := ["tree", "bound", "definitions", "inner", "bodies", "part", "_", "parameters", "body", "pattern", "definition"]) (sc := defScope sParts) (by decide +kernel)) (fun _ _ _ _ _ => (pg_tup rfl (pgs_cons (pg_name (i := 9) scParts.nd rfl (Or.inl rfl)) (pgs_cons (pg_name (i := 8) scParts.nd rfl (Or.inl rfl)) pgs_nil)))) (fun _ _ _ _ _ => pts_nil) (fun _ _ _ _ _ => (pe_tup (pa_cons (pv 8) (pa_cons (C8.pe_c cwith_names hr (by decide) rfl (pa_cons (pv 1) (pa_cons (C8.pe_c cpattern_names hr (by decide) rfl (pa_cons (pv 9) pa_nil)) pa_nil))) pa_nil)))))
    (pss_one (ps_ret (pe_lst (pa_cons (pe_tup (pa_cons (pe_ix ix_tup (pv 0) pe_int (fun _ _ => rfl)) (pa_cons (pv 1) pa_nil))) (StX.pa_star (pv 4) pa_nil))))))
      pss_nil)
    (pss_one (ps_ret (pe_lc (own := [("part", 5)]) (g := gName 5) (tt := tYes) rfl scParts.nd (pi_tup (C8.pe_c cplain_parts hr (by decide) rfl (pa_cons (pv 0) pa_nil))) (blkOk_by (own := [("part", 5)]) (N := ["tree", "bound", "definitions", "inner", "bodies", "part", "_", "parameters", "body", "pattern", "definition"]) (sc := defScope sParts) (by decide +kernel)) (fun _ _ _ _ _ => (pg_name (i := 5) scParts.nd rfl (Or.inl rfl))) (fun _ _ _ _ _ => pts_nil) (fun _ _ _ _ _ => (pe_tup (pa_cons (pv 5) (pa_cons (pv 1) pa_nil)))))))))), ?_⟩
  by_cases hpl : e.plain = true
  · obtain ⟨a, w', r, rfl, ha, n1, n2, n3⟩ := he.head hpl
    refine ⟨_, rfl, a, _, 0, .str w', rfl, rfl, SqT.of ha, at0 _ _, rfl, _, rfl, ?_⟩
    show if decide (V.str w' = V.str "lam") = true then _ else _
    rw [wne n1]
    refine iteF ?_
    refine ⟨_, rfl, a, _, 0, .str w', rfl, rfl, SqT.of ha, at0 _ _, rfl, _, rfl, ?_⟩
    show if decide (V.str w' = V.str "let") = true then _ else _
    rw [wne n2]
    refine iteF ?_
    refine ⟨_, rfl, a, _, 0, .str w', rfl, rfl, SqT.of ha, at0 _ _, rfl, _, rfl, ?_⟩
    show if decide (V.str w' = V.str "case") = true then _ else _
    rw [wne n3]
    refine iteF ?_
    refine ⟨_, rfl, .ref a, e, rfl, he, hpl, fun u xs H1 s1 hu hats => ?_⟩
    refine ⟨u, rfl, ⟨_, SqT.of hu⟩, fun D hD => ?_⟩
    have hD0 := s1.free hD
    refine lc_tup (K := K) (a := u) (xs := xs) (fun i G => ∃ zs, G D = some (.lst zs) ∧ Same H1 G ∧ TasksAt (fun x => x = d ∨ H x = none) G ((e.subs.take i).map (·, b)) zs) ⟨[], upd_same, same_new hD _, rfl⟩ (fun i G hi ⟨zs, h1, h2, h3⟩ => SqT.of (h2 _ _ hu)) ?_ ?_
    · rintro i x G hx ⟨zs, h1, h2, h3⟩
      obtain ⟨k, hk, hat⟩ := hats.get i hx
      have hil : i < e.subs.length := (List.getElem?_eq_some_iff.mp hk).1
      have zl := h3.len
      have z1 := Ex.sizes_len e.subs
      have z2 := e.subs_size hpl
      rw [List.length_map, List.length_take] at zl
      refine ⟨rfl, ?_⟩
      refine tYes_if ?_
      refine ⟨_, rfl, _, rfl, by show 2 ≤ sizeLine; decide, fun t ht => ?_⟩
      have s3 := same_new ht (.tup [x, .ref d])
      have s4 : Same H1 (upd (upd G t (.tup [x, .ref d])) D (.lst (zs ++ [.ref t]))) := same_upd hD (fun b o e => s3 _ _ (h2 _ _ e)) _
      refine ⟨zs, s3 _ _ h1, szl (by omega), zs ++ [.ref t], upd_same, s4, ?_⟩
      have t1 : Same (upd G t (.tup [x, .ref d])) (upd G t (.tup [x, .ref d])) := fun _ _ e => e
      rw [List.take_add_one, hk, List.map_append]
      refine TasksAt.app ?_ ⟨.ref t, [], rfl, ⟨t, x, d, rfl, ?_, hat.keep (tk_same s4), (hB.same s1).same s4, .inl rfl⟩, rfl⟩
      · exact (h3.same s3).off (s3 _ _ h1)
      · rw [upd_ne (ne_of_none h1 ht).symm]
        exact upd_same
    · rintro G ⟨zs, h1, h2, h3⟩
      rw [hats.len, List.take_length] at h3
      refine q D zs G (sameT s1 h2) hD0 h1 ?_
      rw [e.open_plain hpl]
      exact h3
  cases e with
  | var s => cases hnv
  | pl w o l => exact (hpl rfl).elim
  | ls l => exact (hpl rfl).elim
  | lam ns e =>
    obtain ⟨a, b', u, rfl, ha, hb, hns, hu⟩ := he
    refine ⟨_, rfl, a, _, 0, .str "lam", rfl, rfl, SqT.of ha, at0 _ _, rfl, _, rfl, ?_⟩
    show if decide (V.str "lam" = V.str "lam") = true then _ else _
    rw [wtt]
    refine iteT ?_
    refine ⟨_, rfl, a, _, 2, u, rfl, rfl, SqT.of ha, at2 _ _ _ _, _, rfl, _, rfl, a, _, 1, .ref b', rfl, rfl, SqT.of ha, at1 _ _ _, d, b', ns, b, rfl, hB, hb, hns.mem, fun u2 H2 s2 hn2 hB2 => ?_⟩
    refine ⟨by show 2 ≤ sizeLine; decide, fun t ht => ?_⟩
    refine ⟨by show 1 ≤ sizeLine; decide, fun p hp => ?_⟩
    have s3 := same_new ht (.tup [u, .ref u2])
    have s4 := same_new hp (.lst [.ref t])
    have s24 := sameT s2 (sameT s3 s4)
    exact q p [.ref t] _ s24 (s2.free (s3.free hp)) upd_same ⟨.ref t, [], rfl, ⟨t, u, u2, rfl, s4 _ _ upd_same, hu.keep (tk_same s24), (hB2.same s3).same s4, .inr hn2⟩, rfl⟩
  | lt hs l e =>
    obtain ⟨a, b', xs, u, rfl, ha, hb, hrows, hdefs, hu⟩ := he
    have es : (Ex.lt hs l e).size = 1 + Ex.sizes l + e.size := rfl
    have hll := Ex.sizes_len l
    refine ⟨_, rfl, a, _, 0, .str "let", rfl, rfl, SqT.of ha, at0 _ _, rfl, _, rfl, ?_⟩
    show if decide (V.str "let" = V.str "lam") = true then _ else _
    rw [wz _ _ (by decide +kernel)]
    refine iteF ?_
    refine ⟨_, rfl, a, _, 0, .str "let", rfl, rfl, SqT.of ha, at0 _ _, rfl, _, rfl, ?_⟩
    show if decide (V.str "let" = V.str "let") = true then _ else _
    rw [wtt]
    refine iteT ?_
    refine ⟨_, rfl, a, _, 1, .ref b', rfl, rfl, SqT.of ha, at1 _ _ _, b', l, hs, xs, rfl, hb, hrows, by omega, fun D ys H1 s1 hn1 hD hdf => ?_⟩
    have hdl := dfn_len l hs
    have hyl := hdf.len
    refine ⟨_, rfl, _, rfl, D, rfl, ⟨_, SqL.of hD⟩, fun N hN => ?_⟩
    have nND : N ≠ D := fun e => by rw [e, hD] at hN; cases hN
    refine lc_list (K := K) (a := D) (xs := ys) (fun i G => G N = some (.lst ((((dfn l hs).map (·.2.1)).take i).map V.str)) ∧ Same H1 G) ⟨upd_same, same_new hN _⟩ (fun i G hi ⟨h1, h2⟩ => SqL.of (h2 _ _ hD)) ?_ ?_
    · rintro i x G hx ⟨h1, h2⟩
      obtain ⟨q', r, b2, u2, g1, rfl, g2, g3, g4, g5⟩ := hdf.get i hx
      have hil : i < (dfn l hs).length := (List.getElem?_eq_some_iff.mp g1).1
      refine ⟨rfl, ?_⟩
      refine tYes_if ?_
      refine ⟨_, rfl, r, _, 1, .str q'.2.1, rfl, rfl, SqT.of (h2 _ _ g2), at1 _ _ _, _, h1, ?_, ?_, same_upd hN h2 _⟩
      · rw [List.length_map, List.length_take, List.length_map]
        exact szl (by omega)
      · rw [upd_same, List.take_add_one, List.getElem?_map, g1, List.map_append]
        rfl
    rintro G ⟨hNG, sG⟩
    rw [hyl, show (dfn l hs).length = ((dfn l hs).map (·.2.1)).length from (List.length_map _).symm, List.take_length, dfn_names l hs hrows.len.2] at hNG
    have sHG := sameT s1 sG
    refine ⟨d, N, defs hs, b, rfl, hB.same sHG, hNG, hdefs.mem, fun inn H3 s3 hn3 hB3 => ?_⟩
    have s03 := sameT sHG s3
    have s13 := sameT sG s3
    have hinn : H inn = none := sHG.free hn3
    have hdf3 := hdf.keep (tk_same s13)
    have hD3 := s13 _ _ hD
    refine ⟨_, rfl, D, rfl, ⟨_, SqL.of hD3⟩, fun M hM => ?_⟩
    have nMD : M ≠ D := fun e => by rw [e, hD3] at hM; cases hM
    have hM0 := s03.free hM
    refine lc_list (K := K) (a := D) (xs := ys) (fun i G2 => ∃ zs, G2 M = some (.lst zs) ∧ Same H3 G2 ∧ TasksAt (fun x => x = d ∨ H x = none) G2 (((dfn l hs).take i).map fun q => (q.1, (b ++ defs hs) ++ q.2.2)) zs) ⟨[], upd_same, same_new hM _, rfl⟩ (fun i G2 hi ⟨zs, h1, h2, h3⟩ => SqL.of (h2 _ _ hD3)) ?_ ?_
    · rintro i x G2 hx ⟨zs, h1, h2, h3⟩
      obtain ⟨q', r, b2, u2, g1, rfl, g2, g3, g4, g5⟩ := hdf3.get i hx
      have hil : i < (dfn l hs).length := (List.getElem?_eq_some_iff.mp g1).1
      have zl := h3.len
      rw [List.length_map, List.length_take] at zl
      refine ⟨r, _, rfl, SqT.of (h2 _ _ g2), rfl, _, _, rfl, _, _, rfl, _, _, rfl, _, _, rfl, rfl, rfl, ?_⟩
      refine tYes_if ?_
      refine ⟨_, rfl, _, rfl, _, rfl, inn, b2, q'.2.2, b ++ defs hs, rfl, hB3.same h2, h2 _ _ g3, g4.mem, fun w2 H5 s5 hn5 hB5 => ?_⟩
      refine ⟨by show 2 ≤ sizeLine; decide, fun t ht => ?_⟩
      have s6 := same_new ht (.tup [u2, .ref w2])
      have h1' := s6 _ _ (s5 _ _ h1)
      have s36 := sameT h2 (sameT s5 s6)
      have s7 : Same H3 (upd (upd H5 t (.tup [u2, .ref w2])) M (.lst (zs ++ [.ref t]))) := same_upd hM s36 _
      refine ⟨zs, h1', szl (by omega), zs ++ [.ref t], upd_same, s7, ?_⟩
      rw [List.take_add_one, g1, List.map_append]
      refine TasksAt.app (((h3.same s5).same s6).off h1') ⟨.ref t, [], rfl, TaskAt.off h1' ⟨t, u2, w2, rfl, upd_same, (g5.keep (tk_same s36)), hB5.same s6, .inr (s03.free (h2.free hn5))⟩, rfl⟩
    rintro G2 ⟨zs, hMG, sG2, htk⟩
    rw [hyl, List.take_length] at htk
    have s0 := sameT s03 sG2
    have zl := htk.len
    rw [List.length_map] at zl
    refine ⟨_, rfl, M, zs, rfl, .inr (SqL.of hMG), _, rfl, a, _, 2, u, rfl, rfl, SqT.of (s0 _ _ ha), at2 _ _ _ _, _, rfl, by show 2 ≤ sizeLine; decide, fun t ht => ?_⟩
    have s6 := same_new ht (.tup [u, .ref inn])
    refine ⟨by rw [List.length_append]; exact Nat.le_of_lt (szl (by show zs.length + 1 ≤ 100000; omega)), fun p hp => ?_⟩
    have s7 := same_new hp (.lst (zs ++ [.ref t]))
    have s07 := sameT s0 (sameT s6 s7)
    exact q p (zs ++ [.ref t]) _ s07 (s0.free (s6.free hp)) upd_same (TasksAt.app ((htk.same s6).same s7) ⟨.ref t, [], rfl, ⟨t, u, inn, rfl, s7 _ _ upd_same, hu.keep (tk_same s07), ((hB3.same sG2).same s6).same s7, .inr hinn⟩, rfl⟩)
  | cs e ps l =>
    obtain ⟨a, b', xs, u, rfl, ha, hb, halts, hu⟩ := he
    have es : (Ex.cs e ps l).size = 1 + e.size + Ex.sizes l := rfl
    have hll := Ex.sizes_len l
    refine ⟨_, rfl, a, _, 0, .str "case", rfl, rfl, SqT.of ha, at0 _ _, rfl, _, rfl, ?_⟩
    show if decide (V.str "case" = V.str "lam") = true then _ else _
    rw [wz _ _ (by decide +kernel)]
    refine iteF ?_
    refine ⟨_, rfl, a, _, 0, .str "case", rfl, rfl, SqT.of ha, at0 _ _, rfl, _, rfl, ?_⟩
    show if decide (V.str "case" = V.str "let") = true then _ else _
    rw [wz _ _ (by decide +kernel)]
    refine iteF ?_
    refine ⟨_, rfl, a, _, 0, .str "case", rfl, rfl, SqT.of ha, at0 _ _, rfl, _, rfl, ?_⟩
    show if decide (V.str "case" = V.str "case") = true then _ else _
    rw [wtt]
    refine iteT ?_
    refine ⟨_, rfl, a, _, 2, .ref b', rfl, rfl, SqT.of ha, at2 _ _ _ _, b', rfl, ⟨_, SqT.of hb⟩, fun M hM => ?_⟩
    refine lc_tup (K := K) (a := b') (xs := xs) (fun i G2 => ∃ zs, G2 M = some (.lst zs) ∧ Same H G2 ∧ TasksAt (fun x => x = d ∨ H x = none) G2 (altO b (l.take i) (ps.take i)) zs) ⟨[], upd_same, same_new hM _, rfl⟩ (fun i G2 hi ⟨zs, h1, h2, h3⟩ => SqT.of (h2 _ _ hb)) ?_ ?_
    · rintro i x G2 hx ⟨zs, h1, h2, h3⟩
      obtain ⟨e', p', r, pv, u2, g1, g2, rfl, g3, g4, g5, g6⟩ := halts.get i hx
      have hil : i < l.length := (List.getElem?_eq_some_iff.mp g1).1
      have zl := h3.len
      have zl2 := altO_len b (l.take i) (ps.take i)
      rw [List.length_take] at zl2
      refine ⟨r, _, rfl, SqT.of (h2 _ _ g3), rfl, _, _, rfl, _, _, rfl, rfl, rfl, ?_⟩
      refine tYes_if ?_
      refine ⟨_, rfl, _, rfl, _, rfl, pv, p', rfl, g4.keep (tk_same h2), fun pn H4 s4 hpn => ?_⟩
      refine ⟨d, pn, p'.names, b, rfl, (hB.same h2).same s4, hpn, g5.mem, fun w2 H5 s5 hn5 hB5 => ?_⟩
      refine ⟨by show 2 ≤ sizeLine; decide, fun t ht => ?_⟩
      have s6 := same_new ht (.tup [u2, .ref w2])
      have h1' := s6 _ _ (s5 _ _ (s4 _ _ h1))
      have s06 := sameT h2 (sameT s4 (sameT s5 s6))
      have s7 : Same H (upd (upd H5 t (.tup [u2, .ref w2])) M (.lst (zs ++ [.ref t]))) := same_upd hM s06 _
      refine ⟨zs, h1', szl (by omega), zs ++ [.ref t], upd_same, s7, ?_⟩
      rw [altO_step b g1 g2]
      refine TasksAt.app ((((h3.same s4).same s5).same s6).off h1') ⟨.ref t, [], rfl, TaskAt.off h1' ⟨t, u2, w2, rfl, upd_same, (g6.keep (tk_same s06)), hB5.same s6, .inr (h2.free (s4.free hn5))⟩, rfl⟩
    rintro G2 ⟨zs, hMG, sG2, htk⟩
    rw [halts.len.1, List.take_length, ← halts.len.2, List.take_length] at htk
    have zl := htk.len
    have zl2 := altO_len b l ps
    refine ⟨_, rfl, a, _, 1, u, rfl, rfl, SqT.of (sG2 _ _ ha), at1 _ _ _, _, rfl, by show 2 ≤ sizeLine; decide, fun t ht => ?_⟩
    have s6 := same_new ht (.tup [u, .ref d])
    refine ⟨_, rfl, M, zs, rfl, .inr (SqL.of (s6 _ _ hMG)), ?_⟩
    refine ⟨by show (V.ref t :: (zs ++ [])).length ≤ _; rw [List.append_nil, List.length_cons]; exact Nat.le_of_lt (szl (by omega)), fun p hp => ?_⟩
    have s7 := same_new hp (.lst (V.ref t :: (zs ++ [])))
    have s07 := sameT sG2 (sameT s6 s7)
    exact q p _ _ s07 (sG2.free (s6.free hp)) upd_same ⟨.ref t, _, rfl, ⟨t, u, d, rfl, s7 _ _ upd_same, hu.keep (tk_same s07), hB.same s07, .inl rfl⟩, by rw [List.append_nil] at s7 ⊢; exact (htk.same s6).same s7⟩
end
end Toy

set_option Elab.async false
set_option linter.all false
set_option maxRecDepth 100000
set_option maxHeartbeats 4000000
/-! Part E: free_values. -/
namespace Toy
open PySem L2
open PyProof.Rows (envOfC sortedS)
theorem TasksAt.offD {fd : Addr} {H : Hp} {kvs : List (Key × V)} {o : HO} (hf : H fd = some (.dK kvs)) : ∀ {L : List (Ex × List Str)} {xs : List V}, TasksAt (· ≠ fd) H L xs → TasksAt (· ≠ fd) (upd H fd o) L xs
  | [], _, h => h
  | q :: L, _, ⟨x, zs, e, ⟨t, v, d, e1, h1, h2, ⟨ks, h3, h4⟩, h5⟩, h6⟩ =>
    ⟨x, zs, e, ⟨t, v, d, e1, tk_dict hf _ _ h1, h2.keep (tk_dict hf), ⟨ks, by rw [upd_ne h5]; exact h3, h4⟩, h5⟩, TasksAt.offD hf h6⟩
theorem TasksAt.snoc {ok : Addr → Prop} {H : Hp} : ∀ {L : List (Ex × List Str)} {xs : List V} {x : V}, TasksAt ok H L (xs ++ [x]) → ∃ M q, L = M ++ [q] ∧ TasksAt ok H M xs ∧ TaskAt ok H q x
  | [], xs, x, h => by
    have h : xs ++ [x] = [] := h
    simp at h
  | q :: L, [], x, ⟨y, ys, e, h1, h2⟩ => by
    have e1 : x = y ∧ [] = ys := by
      have z := List.cons.inj (show [x] = y :: ys from e)
      exact z
    obtain ⟨rfl, rfl⟩ := e1
    cases L with
    | nil => exact ⟨[], q, rfl, rfl, h1⟩
    | cons p L =>
      obtain ⟨z, zs, e2, _⟩ := h2
      cases e2
  | q :: L, w :: xs, x, ⟨y, ys, e, h1, h2⟩ => by
    have z := List.cons.inj (show w :: (xs ++ [x]) = y :: ys from e)
    obtain ⟨rfl, rfl⟩ := z
    obtain ⟨M, q', e2, h3, h4⟩ := TasksAt.snoc h2
    exact ⟨q :: M, q', by rw [e2]; rfl, ⟨w, xs, rfl, h1, h3⟩, h4⟩
theorem Ex.At.headW {H : Hp} : ∀ {e : Ex} {v : V}, e.At H v → e.isVar = false → ∃ a r w, v = .ref a ∧ H a = some (.tup (.str w :: r)) ∧ w ≠ "var"
  | .var _, _, _, h => by cases h
  | .pl w o l, _, ⟨a, xs, e, h, h1, h2⟩, _ => by
    refine ⟨a, _, w, e, h, ?_⟩
    rcases h2 with ⟨hw, _⟩ | ⟨hw, _⟩ | ⟨hw, _⟩ <;> rcases hw with rfl | rfl <;> decide +kernel
  | .ls l, _, ⟨a, b, xs, e, h, h1, h2⟩, _ => ⟨a, _, "list", e, h, by decide +kernel⟩
  | .lam ns k, _, ⟨a, b, u, e, h, h1, h2, h3⟩, _ => ⟨a, _, "lam", e, h, by decide +kernel⟩
  | .lt hs l k, _, ⟨a, b, xs, u, e, h, h1, h2, h3, h4⟩, _ => ⟨a, _, "let", e, h, by decide +kernel⟩
  | .cs k ps l, _, ⟨a, b, xs, u, e, h, h1, h2, h3⟩, _ => ⟨a, _, "case", e, h, by decide +kernel⟩
section
variable {P : Program} {w : World} {K : PySem.W.Frag} {mg : Str → Option Value} {base : Heap}
abbrev sFree : Stmt := topS 6
theorem scFree : FnScope ["expression", "found", "todo", "tree", "bound"] ["expression"] (defScope sFree) := ⟨rfl, rfl, rfl, by decide +kernel, rfl, by decide +kernel, by decide +kernel⟩
def spFree : Sp := fun vs H Q _ => ∃ (v : V) (e : Ex), vs = [v] ∧ e.At H v ∧ e.size ≤ 50000 ∧ ∀ (p : Addr) (ys : List Str) (H' : Hp), Same H H' → H' p = some (.tup (ys.map V.str)) → Up ys → (∀ s, s ∈ ys ↔ e.occ s) → ys.length ≤ 7 → Q (.ref p) H'
theorem c_free {f : Addr} {fd : FuncData} (T : TxtP mg) (c_parts : C8.Cal P w K mg base 2 "_parts" spParts []) (F : Fun K "free_values" "free_values" sFree f fd) (b : Binds K fd ["expression"] []) (hm : mg "free_values" = some (.ref f)) : C8.Cal P w K mg base 3 "free_values" spFree [] := by
  refine cal_of F hm b scFree (fun vs H Q E h => ?_) (fun cdv A outer s H vs Q E hr h => ?_)
  · obtain ⟨v, e, rfl, _⟩ := h
    rfl
  obtain ⟨v, e, rfl, he, hsz, q⟩ := h
  have hu := hu_of hr
  refine ⟨_, (pss_cons (ps_set (i := 1) scFree.nd rfl (Or.inl rfl) pe_dnewK)
    (pss_cons (ps_set (i := 2) scFree.nd rfl (Or.inl rfl) (pe_lst (pa_cons (pe_tup (pa_cons (pv 0) (pa_cons pe_dnewK pa_nil))) pa_nil)))
    (pss_cons (ps_while PassesOwn.never (pt_truth (pv 2) (fun _ => rfl))
      (pss_cons (ps_asg (pe_bm0 PySem.F.plainAttrs_list PySem.F.slot_list_pop PySem.F.type_list_pop mt_pop (pv 2)) (pg_tup rfl (pgs_cons (pg_name (i := 3) scFree.nd rfl (Or.inl rfl)) (pgs_cons (pg_name (i := 4) scFree.nd rfl (Or.inl rfl)) pgs_nil))))
    (pss_one (ps_if (pt_cmpR op_eq (pe_ix ix_tup (pv 3) pe_int (fun _ _ => rfl)) pe_str (nomark _))
      (pss_one (ps_if (pt_cmp (pc_dnotin hu (pe_ix ix_tup (pv 3) pe_int (fun _ _ => rfl)) (pv 4)))
      (pss_one (ps_dput hu (pv 1) (pe_ix ix_tup (pv 3) pe_int (fun _ _ => rfl)) pe_bl rfl))
      pss_nil))
      (pss_one (ps_expr (pe_bm PySem.F.plainAttrs_list PySem.F.slot_list_extend PySem.F.type_list_extend mt_extend (pv 2) (pa_cons (C8.pe_c c_parts hr (by decide) rfl (pa_cons (pv 3) (pa_cons (pv 4) pa_nil))) pa_nil))))))))
    (pss_one (ps_ret (pe_callTy call_tuple_of rfl T.ztuple boot_tuple (pa_cons (pe_callB (call_sortedD rfl) rfl T.zsorted PyProof.Rows.boot_sorted (pa_cons (pv 1) pa_nil)) pa_nil))))))), ?_⟩
  intro fd0 hfd0
  have s1 := same_new hfd0 (.dK [])
  have e1 : upd H fd0 (.dK []) fd0 = some (.dK (setS [])) := upd_same
  generalize upd H fd0 (.dK []) = H1 at s1 e1 ⊢
  refine ⟨_, rfl, fun dd hdd => ?_⟩
  have s2 := same_new hdd (.dK [])
  have e2 : upd H1 dd (.dK []) dd = some (.dK (setS [])) := upd_same
  generalize upd H1 dd (.dK []) = H2 at s2 e2 ⊢
  refine ⟨by show 2 ≤ sizeLine; decide, fun tp htp => ?_⟩
  have s3 := same_new htp (.tup [v, .ref dd])
  have e3 : upd H2 tp (.tup [v, .ref dd]) tp = some (.tup [v, .ref dd]) := upd_same
  generalize upd H2 tp (.tup [v, .ref dd]) = H3 at s3 e3 ⊢
  refine ⟨by show 1 ≤ sizeLine; decide, fun td htd => ?_⟩
  have s4 := same_new htd (.lst [.ref tp])
  have e4 : upd H3 td (.lst [.ref tp]) td = some (.lst [.ref tp]) := upd_same
  have htd0 : H td = none := s1.free (s2.free (s3.free htd))
  have nft : fd0 ≠ td := ne_of_none (s3 _ _ (s2 _ _ e1)) htd
  have nfd : dd ≠ fd0 := fun z => by rw [z, e1] at hdd; cases hdd
  generalize upd H3 td (.lst [.ref tp]) = H4 at s4 e4 ⊢
  have s04 : Same H H4 := sameT s1 (sameT s2 (sameT s3 s4))
  refine ⟨fun n σ H5 => ∃ (v3 v4 : Option V) (ks : List Str) (L : List (Ex × List Str)) (st : List V), n = osum L ∧ σ = [some v, some (.ref fd0), some (.ref td), v3, v4] ∧ Same H H5 ∧ H5 fd0 = some (.dK (setS ks)) ∧ ks.Nodup ∧ (∀ s ∈ ks, s ∈ ABC) ∧ H5 td = some (.lst st) ∧ TasksAt (· ≠ fd0) H5 L st ∧ osum L ≤ e.size ∧ ∀ s, (s ∈ ks ∨ freeIn s L) ↔ e.occ s,
    ⟨_, none, none, [], [(e, [])], [.ref tp], rfl, rfl, s04, s4 _ _ (s3 _ _ (s2 _ _ e1)), List.nodup_nil, (fun s h => absurd h List.not_mem_nil), e4, ⟨.ref tp, [], rfl, ⟨tp, v, dd, rfl, s4 _ _ e3, he.keep (tk_same s04), ⟨[], s4 _ _ (s3 _ _ e2), ⟨List.nodup_nil, fun s => Iff.rfl, fun s h => absurd h List.not_mem_nil⟩⟩, nfd⟩, rfl⟩, (by show e.size + 0 ≤ _; omega), fun s => ?_⟩, ?_⟩
  · rw [free_one]
    exact ⟨fun h => h.elim (fun z => absurd z List.not_mem_nil) fun z => z.1, fun h => .inr ⟨h, List.not_mem_nil⟩⟩
  clear s1 e1 s2 e2 s3 e3 s4 e4 s04 hdd htp htd
  rintro n σ H5 ⟨v3, v4, ks, L, st, rfl, rfl, s5, hf5, nod, habc, ht5, htk, hle, hocc⟩
  refine ⟨_, rfl, _, .inl ⟨_, SqL.of ht5, rfl⟩, ?_⟩
  have hkl : ks.length ≤ 7 := nodup_len nod habc
  rcases List.eq_nil_or_concat st with rfl | ⟨st', x, rfl⟩
  · refine iteF ?_
    have eL : L = [] := by
      cases L with
      | nil => rfl
      | cons q L => obtain ⟨y, ys, e', _⟩ := htk; cases e'
    subst eL
    refine ⟨_, rfl, fd0, _, ks, rfl, .inl hf5, ?_, by omega, fun ys p hperm hsrt hp => ?_⟩
    · unfold setS
      rw [List.map_map]
      rfl
    have s6 := same_new hp (.lst (ys.map V.str))
    refine ⟨p, _, rfl, .inl ⟨SqL.of upd_same, fun u hu2 => ?_⟩⟩
    have s7 := same_new hu2 (.tup (ys.map V.str))
    refine q u ys _ (sameT s5 (sameT s6 s7)) upd_same (up_of (rise_of hsrt) (hperm.nodup_iff.mpr nod)) (fun s => ?_) (by rw [hperm.length_eq]; exact hkl)
    rw [hperm.mem_iff, ← hocc s]
    exact ⟨.inl, fun h => h.elim id fun ⟨_, z, _⟩ => absurd z List.not_mem_nil⟩
  · have est : st' ++ [x] = st' ++ [x] := rfl
    rw [List.concat_eq_append] at *
    obtain ⟨M, ⟨e', b'⟩, rfl, hM, t, v', d', rfl, h1, h2, h3, h4⟩ := htk.snoc
    have ne : (!(st' ++ [V.ref t]).isEmpty) = true := by cases st' <;> rfl
    rw [ne]
    refine iteT ?_
    refine ⟨fun σ' H' => ∃ (v3 v4 : Option V) (ks : List Str) (L : List (Ex × List Str)) (st : List V), osum L < osum (M ++ [(e', b')]) ∧ σ' = [some v, some (.ref fd0), some (.ref td), v3, v4] ∧ Same H H' ∧ H' fd0 = some (.dK (setS ks)) ∧ ks.Nodup ∧ (∀ s ∈ ks, s ∈ ABC) ∧ H' td = some (.lst st) ∧ TasksAt (· ≠ fd0) H' L st ∧ osum L ≤ e.size ∧ ∀ s, (s ∈ ks ∨ freeIn s L) ↔ e.occ s,
      fun σ' H' ⟨v3, v4, ks, L, st, lt, rest⟩ => ⟨_, lt, v3, v4, ks, L, st, rfl, rest⟩, ?_⟩
    refine ⟨_, rfl, .inl ⟨rfl, _, SqL.of ht5⟩, td, _, .ref t, rfl, rfl, ht5, by simp, t, [v', .ref d'], rfl, ?_, rfl, _, _, rfl, _, _, rfl, rfl, ?_⟩
    · exact SqT.of (tk_list ht5 _ _ h1)
    rw [List.dropLast_concat]
    have hM6 := hM.off (o := .lst st') ht5
    have s6 : Same H (upd H5 td (.lst st')) := same_upd htd0 s5 _
    have ht6 : upd H5 td (.lst st') td = some (.lst st') := upd_same
    have hf6 : upd H5 td (.lst st') fd0 = some (.dK (setS ks)) := by rw [upd_ne nft]; exact hf5
    have t6 : TK H5 (upd H5 td (.lst st')) := tk_list ht5
    have hB6 : BoundAt (upd H5 td (.lst st')) d' b' := by
      obtain ⟨kb, g1, g2⟩ := h3
      exact ⟨kb, by rw [upd_ne (fun z => by rw [z, ht5] at g1; cases g1)]; exact g1, g2⟩
    have he6 := h2.keep t6
    generalize upd H5 td (.lst st') = H6 at hM6 s6 ht6 hf6 t6 hB6 he6
    have hle2 : osum M + e'.size ≤ e.size := by
      rw [osum_app] at hle
      have : osum M + (e'.size + 0) ≤ e.size := hle
      omega
    have hlt : osum M < osum (M ++ [(e', b')]) := by
      rw [osum_app]
      have := e'.size_pos
      show _ < osum M + (e'.size + 0)
      omega
    cases hv : e'.isVar with
    | true =>
      cases e' with
      | var s0 =>
        obtain ⟨a, rfl, ha, hs0⟩ := he6
        obtain ⟨kb, g1, g2⟩ := hB6
        refine ⟨_, rfl, a, _, 0, .str "var", rfl, rfl, SqT.of ha, at0 _ _, rfl, _, rfl, ?_⟩
        show if decide (V.str "var" = V.str "var") = true then _ else _
        rw [wtt]
        refine iteT ?_
        refine ⟨_, rfl, a, _, 1, .str s0, rfl, rfl, SqT.of ha, at1 _ _ _, _, rfl, d', _, rfl, DGet.k (k := Sum.inr s0) g1, _, rfl, ?_⟩
        rw [get_setS]
        by_cases hin : s0 ∈ kb
        · rw [if_pos hin]
          refine iteF ?_
          refine ⟨_, _, ks, M, st', hlt, rfl, s6, hf6, nod, habc, ht6, hM6, by omega, fun s => ?_⟩
          rw [← hocc s, free_app, free_one]
          exact ⟨fun h => h.elim .inl fun z => .inr (.inl z), fun h => h.elim .inl fun z => z.elim .inr fun ⟨z1, z2⟩ => by
            have z1 : s = s0 := z1
            rw [z1] at z2
            exact (z2 ((g2.mem s0).mp hin)).elim⟩
        · rw [if_neg hin]
          refine iteT ?_
          refine ⟨_, rfl, _, rfl, a, _, 1, .str s0, rfl, rfl, SqT.of ha, at1 _ _ _, fd0, _, rfl, DPut.k (k := Sum.inr s0) hf6 (by unfold setS; rw [List.length_map]; exact szl (by omega)), ?_⟩
          refine ⟨_, _, addS ks s0, M, st', hlt, rfl, same_upd hfd0 s6 _, by rw [upd_same, put_setS], nodup_addS nod, fun s h => (mem_addS.mp h).elim (habc s) fun z => z ▸ hs0, by rw [upd_ne nft.symm]; exact ht6, hM6.offD hf6, by omega, fun s => ?_⟩
          rw [← hocc s, free_app, free_one, mem_addS]
          constructor
          · rintro ((h | h) | h)
            · exact .inl h
            · subst h
              exact .inr (.inr ⟨rfl, fun z => hin ((g2.mem s).mpr z)⟩)
            · exact .inr (.inl h)
          · rintro (h | h | ⟨h, _⟩)
            · exact .inl (.inl h)
            · exact .inr h
            · exact .inl (.inr h)
      | _ => cases hv
    | false =>
      obtain ⟨a, r, w0, rfl, ha, hw0⟩ := he6.headW hv
      refine ⟨_, rfl, a, _, 0, .str w0, rfl, rfl, SqT.of ha, at0 _ _, rfl, _, rfl, ?_⟩
      show if decide (V.str w0 = V.str "var") = true then _ else _
      rw [wne hw0]
      refine iteF ?_
      refine ⟨_, rfl, .inl ⟨rfl, _, SqL.of ht6⟩, _, rfl, _, rfl, .ref a, d', e', b', rfl, he6, hB6, hv, by omega, fun p xs H7 s7 hp7 hp hxs => ?_⟩
      have hM7 := hM6.same s7
      have s07 := sameT s6 s7
      have ht7 := s7 _ _ ht6
      have hx2 : TasksAt (· ≠ fd0) H7 (e'.open b') xs := hxs.imp fun d0 h => h.elim (fun z => z ▸ h4) fun z z2 => by rw [z2, hf6] at z; cases z
      have l1 := hM7.len
      have l2 := hx2.len
      have l3 := osum_len M
      have l4 := osum_len (e'.open b')
      have l5 := osum_open b' e'
      refine ⟨td, p, st', xs, rfl, rfl, ht7, hp, Nat.le_of_lt (szl (by omega)), ?_⟩
      refine ⟨_, _, ks, M ++ e'.open b', st' ++ xs, ?_, rfl, same_upd htd0 s07 _, by rw [upd_ne nft]; exact s7 _ _ hf6, nod, habc, upd_same, (hM7.app hx2).off ht7, ?_, fun s => ?_⟩
      · rw [osum_app, osum_app]
        show _ < osum M + (e'.size + 0)
        omega
      · rw [osum_app]
        omega
      · rw [← hocc s, free_app, free_app, free_one, free_open e' hv]
end
end Toy

set_option Elab.async false
set_option linter.all false
set_option maxRecDepth 100000
set_option maxHeartbeats 4000000
/-! Part F: the law's drawing of expressions. -/
namespace Toy
open PySem L2
open PyProof.Rows (envOfC)
theorem at_str {zs : List Str} {i : Int} (h0 : 0 ≤ i) (h1 : i < (zs.length : Int)) : ∃ z ∈ zs, atI (zs.map V.str) i = some (.str z) := by
  have hk : i.toNat < zs.length := by omega
  refine ⟨zs[i.toNat], List.getElem_mem _, ?_⟩
  have q : atI (zs.map V.str) ((i.toNat : Nat) : Int) = some (.str zs[i.toNat]) := atI_nat (by rw [List.getElem?_map, List.getElem?_eq_getElem hk] <;> rfl)
  rw [show ((i.toNat : Nat) : Int) = i by omega] at q
  exact q
theorem cal_none {P : Program} {w : World} {K : PySem.W.Frag} {mg : Str → Option Value} {base : Heap} {x : Str} {st : Stmt} {f : Addr} {fd : FuncData} {ps : List Str} {k : Nat} {sp : Sp} (F : Fun K x x st f fd) (hm : mg x = some (.ref f)) (b : Binds K fd ps []) (no : ∀ vs H Q E, ¬ sp vs H Q E) : C8.Cal P w K mg base k x sp [] :=
  ⟨f, fd, ps, [], ⟨fun vs H Q E h => (no _ _ _ _ h).elim, fun A outer s H args us vs Q E hr e0 hb r hsp => (no _ _ _ _ hsp).elim⟩, hm, F.kp, b, .nil⟩
/-- how large an expression drawn at a depth may be -/
def kX : Nat → Nat
  | 0 => 1
  | d + 1 => 8 + 4 * kX d
theorem kX_pos : ∀ d, 1 ≤ kX d
  | 0 => Nat.le_refl _
  | d + 1 => by show 1 ≤ 8 + 4 * kX d; omega
theorem kX_step (d : Nat) : kX d ≤ kX (d + 1) := by show kX d ≤ 8 + 4 * kX d; omega
theorem kX_le {d e : Nat} (h : d ≤ e) : kX d ≤ kX e := by
  induction h with
  | refl => exact Nat.le_refl _
  | step _ ih => exact Nat.le_trans ih (kX_step _)
theorem kX5 : kX 5 = 3752 := by decide
structure Gx (d : Nat) (e : Ex) : Prop where
  dep : e.dep ≤ d
  size : e.size ≤ kX d
theorem gx_var {d : Nat} {s : Str} : Gx d (.var s) := ⟨Nat.zero_le _, kX_pos d⟩
theorem gx_pl0 {d : Nat} {w : Str} {o : Option V} : Gx (d + 1) (.pl w o []) := ⟨by show 1 + 0 ≤ _; omega, by show 1 + 0 ≤ 8 + 4 * kX d; omega⟩
theorem gx_pl1 {d : Nat} {w : Str} {o : Option V} {a : Ex} (h : Gx d a) : Gx (d + 1) (.pl w o [a]) := ⟨by have := h.dep; show 1 + max a.dep 0 ≤ _; omega, by have := h.size; show 1 + (a.size + 0) ≤ 8 + 4 * kX d; omega⟩
theorem gx_pl2 {d : Nat} {w : Str} {o : Option V} {a b : Ex} (h : Gx d a) (k : Gx d b) : Gx (d + 1) (.pl w o [a, b]) := ⟨by have := h.dep; have := k.dep; show 1 + max a.dep (max b.dep 0) ≤ _; omega, by have := h.size; have := k.size; show 1 + (a.size + (b.size + 0)) ≤ 8 + 4 * kX d; omega⟩
theorem gx_pl3 {d : Nat} {w : Str} {o : Option V} {a b c : Ex} (h : Gx d a) (k : Gx d b) (m : Gx d c) : Gx (d + 1) (.pl w o [a, b, c]) := ⟨by have := h.dep; have := k.dep; have := m.dep; show 1 + max a.dep (max b.dep (max c.dep 0)) ≤ _; omega, by have := h.size; have := k.size; have := m.size; show 1 + (a.size + (b.size + (c.size + 0))) ≤ 8 + 4 * kX d; omega⟩
theorem gx_lam {d : Nat} {ns : List Str} {a : Ex} (h : Gx d a) : Gx (d + 1) (.lam ns a) := ⟨by have := h.dep; show 1 + a.dep ≤ _; omega, by have := h.size; show 1 + a.size ≤ 8 + 4 * kX d; omega⟩
/-- a row of expressions drawn at a depth, n of them -/
structure Gxs (d n : Nat) (l : List Ex) : Prop where
  dep : Ex.deps l ≤ d
  size : Ex.sizes l ≤ n * kX d
  len : l.length ≤ n
theorem deps_app : ∀ a b : List Ex, Ex.deps (a ++ b) = max (Ex.deps a) (Ex.deps b)
  | [], b => by show Ex.deps b = max 0 _; omega
  | k :: a, b => by rw [List.cons_append, Ex.deps, Ex.deps, deps_app a b]; omega
theorem gxs_nil (d : Nat) : Gxs d 0 [] := ⟨Nat.zero_le _, Nat.zero_le _, Nat.zero_le _⟩
theorem gxs_snoc {d n : Nat} {l : List Ex} {k : Ex} (h : Gxs d n l) (g : Gx d k) : Gxs d (n + 1) (l ++ [k]) := ⟨by
  have := h.dep
  have := g.dep
  rw [deps_app]
  show max _ (max k.dep 0) ≤ _
  omega, by
  have := h.size
  have := g.size
  rw [Ex.sizes_app, Nat.add_mul]
  show _ + (k.size + 0) ≤ _ + 1 * _
  omega, by
  have := h.len
  rw [List.length_append]
  show _ + 1 ≤ _
  omega⟩
theorem gxs_mono {d n m : Nat} {l : List Ex} (h : Gxs d n l) (k : n ≤ m) : Gxs d m l := ⟨h.dep, Nat.le_trans h.size (Nat.mul_le_mul_right _ k), Nat.le_trans h.len k⟩
theorem gx_ls {d : Nat} {l : List Ex} (h : Gxs d 3 l) : Gx (d + 1) (.ls l) := ⟨by have := h.dep; show 1 + Ex.deps l ≤ _; omega, by have := h.size; show 1 + Ex.sizes l ≤ 8 + 4 * kX d; omega⟩
theorem gx_cs {d : Nat} {ps : List Pt} {a : Ex} {l : List Ex} (k : Gx d a) (h : Gxs d 2 l) : Gx (d + 1) (.cs a ps l) := ⟨by have := h.dep; have := k.dep; show 1 + max a.dep (Ex.deps l) ≤ _; omega, by have := h.size; have := k.size; show 1 + a.size + Ex.sizes l ≤ 8 + 4 * kX d; omega⟩
/-- rows of a let, n of them defining -/
structure Gr (d n : Nat) (l : List Ex) (hs : List Hd) : Prop where
  dep : Ex.deps l ≤ d
  size : Ex.sizes l ≤ n * (1 + kX d)
  len : l.length ≤ 2 * n
  abc : ∀ s ∈ defs hs, s ∈ ABC
  nm : (defs hs).length ≤ n
theorem defs_app : ∀ a b : List Hd, defs (a ++ b) = defs a ++ defs b
  | [], b => rfl
  | none :: a, b => defs_app a b
  | some q :: a, b => by
    show q.1 :: defs (a ++ b) = q.1 :: (defs a ++ defs b)
    rw [defs_app a b]
theorem gr_nil (d : Nat) : Gr d 0 [] [] := ⟨Nat.zero_le _, Nat.zero_le _, Nat.zero_le _, fun s h => absurd h List.not_mem_nil, Nat.zero_le _⟩
theorem gr_one {d n : Nat} {l : List Ex} {hs : List Hd} {k : Ex} {q : Str × List Str} (h : Gr d n l hs) (g : Gx d k) (hq : q.1 ∈ ABC) : Gr d (n + 1) (l ++ [k]) (hs ++ [some q]) := ⟨by
  have := h.dep
  have := g.dep
  rw [deps_app]
  show max _ (max k.dep 0) ≤ _
  omega, by
  have := h.size
  have := g.size
  rw [Ex.sizes_app, Nat.add_mul]
  show _ + (k.size + 0) ≤ _ + 1 * _
  omega, by
  have := h.len
  rw [List.length_append]
  show _ + 1 ≤ _
  omega, fun s hs' => by
  rw [defs_app] at hs'
  exact (List.mem_append.mp hs').elim (h.abc s) fun z => by rw [List.mem_singleton.mp z]; exact hq, by
  have := h.nm
  rw [defs_app, List.length_append]
  show _ + 1 ≤ _
  omega⟩
theorem gr_two {d n : Nat} {l : List Ex} {hs : List Hd} {k : Ex} {q : Str × List Str} (h : Gr d n l hs) (g : Gx d k) (hq : q.1 ∈ ABC) : Gr d (n + 1) ((l ++ [.var "f"]) ++ [k]) ((hs ++ [none]) ++ [some q]) := ⟨by
  have := h.dep
  have := g.dep
  rw [deps_app, deps_app]
  show max (max _ (max 0 0)) (max k.dep 0) ≤ _
  omega, by
  have := h.size
  have := g.size
  rw [Ex.sizes_app, Ex.sizes_app, Nat.add_mul]
  show _ + (1 + 0) + (k.size + 0) ≤ _ + 1 * _
  omega, by
  have := h.len
  rw [List.length_append, List.length_append]
  show _ + 1 + 1 ≤ _
  omega, fun s hs' => by
  rw [defs_app, defs_app] at hs'
  have hs' : s ∈ (defs hs ++ []) ++ [q.1] := hs'
  rw [List.append_nil] at hs'
  exact (List.mem_append.mp hs').elim (h.abc s) fun z => by rw [List.mem_singleton.mp z]; exact hq, by
  have := h.nm
  rw [defs_app, defs_app, List.length_append, List.length_append]
  show _ + 0 + 1 ≤ _
  omega⟩
theorem gx_lt {d : Nat} {hs : List Hd} {a : Ex} {l : List Ex} (k : Gx d a) (h : Gr d 3 l hs) : Gx (d + 1) (.lt hs l a) := ⟨by have := h.dep; have := k.dep; show 1 + max (Ex.deps l) a.dep ≤ _; omega, by have := h.size; have := k.size; show 1 + Ex.sizes l + a.size ≤ 8 + 4 * kX d; omega⟩
theorem gr_mono {d n m : Nat} {l : List Ex} {hs : List Hd} (h : Gr d n l hs) (k : n ≤ m) : Gr d m l hs := ⟨h.dep, Nat.le_trans h.size (Nat.mul_le_mul_right _ k), Nat.le_trans h.len (Nat.mul_le_mul_left _ k), h.abc, Nat.le_trans h.nm k⟩
theorem Ex.Rows.app {H : Hp} : ∀ {l m : List Ex} {hs gs : List Hd} {xs ys : List V}, Ex.Rows H l hs xs → Ex.Rows H m gs ys → Ex.Rows H (l ++ m) (hs ++ gs) (xs ++ ys)
  | [], m, hs, gs, xs, ys, ⟨h1, h2⟩, k => by rw [h1, h2]; exact k
  | e :: l, m, _, gs, _, ys, ⟨h, hs', r, zs, e1, e2, h1, h2⟩, k => ⟨h, hs' ++ gs, r, zs ++ ys, by rw [e1]; rfl, by rw [e2]; rfl, h1, Ex.Rows.app h2 k⟩
theorem Ex.Alts.app {H : Hp} : ∀ {l m : List Ex} {ps gs : List Pt} {xs ys : List V}, Ex.Alts H l ps xs → Ex.Alts H m gs ys → Ex.Alts H (l ++ m) (ps ++ gs) (xs ++ ys)
  | [], m, ps, gs, xs, ys, ⟨h1, h2⟩, k => by rw [h1, h2]; exact k
  | e :: l, m, _, gs, _, ys, ⟨p, ps', r, pv, u, zs, e1, e2, h1, h2, h3, h4, h5⟩, k => ⟨p, ps' ++ gs, r, pv, u, zs ++ ys, by rw [e1]; rfl, by rw [e2]; rfl, h1, h2, h3, h4, Ex.Alts.app h5 k⟩
theorem abc1 : ∀ z ∈ (["f", "g", "x", "y", "zz", "x'"] : List Str), z ∈ ABC := by decide +kernel
theorem abc2 : ∀ z ∈ (["x", "y", "zz", "f", "q_1"] : List Str), z ∈ ABC := by decide +kernel
theorem abc3 : ∀ z ∈ (["f", "g", "x"] : List Str), z ∈ ABC := by decide +kernel
structure TxtF (mg : Str → Option Value) : Prop where
  zrange : mg "range" = none
  ztuple : mg "tuple" = none
section
variable {P : Program} {w : World} {K : PySem.W.Frag} {mg : Str → Option Value} {base : Heap}
abbrev sName : Stmt := topS 12
theorem scName : FnScope ["draws"] ["draws"] (defScope sName) := ⟨rfl, rfl, rfl, by decide +kernel, rfl, by decide +kernel, by decide +kernel⟩
def spName : Sp := fun vs H Q _ => ∃ (p r : Addr), vs = [.ref p] ∧ DrawsAt H p r ∧ ∀ (z : Str) (H' : Hp), z ∈ ABC → Keep p H H' → DrawsAt H' p r → Q (.str z) H'
theorem c_name {f : Addr} {fd : FuncData} (c_law_next : C8.Cal P w K mg base 2 "_law_next" spNext []) (F : Fun K "_law_name" "_law_name" sName f fd) (b : Binds K fd ["draws"] []) (hm : mg "_law_name" = some (.ref f)) : C8.Cal P w K mg base 3 "_law_name" spName [] := by
  refine cal_of F hm b scName (fun vs H Q E h => ?_) (fun cdv A outer s H vs Q E hr h => ?_)
  · obtain ⟨p, r, rfl, _⟩ := h
    rfl
  obtain ⟨p, r, rfl, d1, q⟩ := h
  refine ⟨_, (pss_one (ps_ret (pe_ix ix_list (pe_lst (pa_strs (zs := ["f", "g", "x", "y", "zz", "x'"]) rfl)) (C8.pe_c c_law_next hr (by decide) rfl (pa_cons (pv 0) (pa_cons pe_int pa_nil))) (fun _ _ => rfl)))), ?_⟩
  refine ⟨by show 6 ≤ sizeLine; decide, fun lz hlz => ?_⟩
  have s1 := same_new hlz (.lst ((["f", "g", "x", "y", "zz", "x'"] : List Str).map V.str))
  have e1 : upd H lz (.lst ((["f", "g", "x", "y", "zz", "x'"] : List Str).map V.str)) lz = some (.lst ((["f", "g", "x", "y", "zz", "x'"] : List Str).map V.str)) := upd_same
  generalize upd H lz (.lst ((["f", "g", "x", "y", "zz", "x'"] : List Str).map V.str)) = G1 at s1 e1 ⊢
  have d3 := d1.same s1
  have nl : lz ≠ p := (d1.fresh hlz).1
  refine ⟨_, rfl, p, r, 6, rfl, by decide, d3, fun m H3 m0 m5 k4 d4 => ?_⟩
  obtain ⟨z, hz, ez⟩ := at_str (zs := ["f", "g", "x", "y", "zz", "x'"]) m0 m5
  exact ⟨lz, _, m, _, rfl, rfl, SqL.of (k4 _ _ nl e1), ez, q z H3 (abc1 z hz) ((Keep.same s1).trans k4) d4⟩
abbrev sNames : Stmt := topS 13
theorem scNames : FnScope ["draws", "names", "first", "k"] ["draws"] (defScope sNames) := ⟨rfl, rfl, rfl, by decide +kernel, rfl, by decide +kernel, by decide +kernel⟩
def spNames : Sp := fun vs H Q _ => ∃ (p r : Addr), vs = [.ref p] ∧ DrawsAt H p r ∧ ∀ (t : Addr) (ns : List Str) (H' : Hp), NsOk ns → H' t = some (.tup (ns.map V.str)) → Keep p H H' → DrawsAt H' p r → Q (.ref t) H'
theorem c_names {f : Addr} {fd : FuncData} (T : TxtF mg) (c_law_next : C8.Cal P w K mg base 2 "_law_next" spNext []) (F : Fun K "_law_names" "_law_names" sNames f fd) (b : Binds K fd ["draws"] []) (hm : mg "_law_names" = some (.ref f)) : C8.Cal P w K mg base 3 "_law_names" spNames [] := by
  refine cal_of F hm b scNames (fun vs H Q E h => ?_) (fun cdv A outer s H vs Q E hr h => ?_)
  · obtain ⟨p, r, rfl, _⟩ := h
    rfl
  obtain ⟨p, r, rfl, d1, q⟩ := h
  refine ⟨_, (pss_cons (ps_set (i := 1) scNames.nd rfl (Or.inr rfl) (pe_lst (pa_strs (zs := ["x", "y", "zz", "f", "q_1"]) rfl)))
    (pss_cons (ps_set (i := 2) scNames.nd rfl (Or.inr rfl) (C8.pe_c c_law_next hr (by decide) rfl (pa_cons (pv 0) (pa_cons pe_int pa_nil))))
    (pss_one (ps_ret (pe_callTy call_tuple_of rfl T.ztuple boot_tuple (pa_cons (pe_lc (own := [("k", 3)]) (g := gName 3) (tt := tYes) (te := (tOp (rIxL K) (tVar 1) (tOp (rI (fun x j => 0 < j) fun i j => V.int (i % j)) (tOp (rI0 fun i j => V.int (i + j)) (tVar 2) (tVar 3)) (tC (.int 5))))) rfl scNames.nd (pi_range1 rfl T.zrange (pa_cons (pe_op op_add pe_int (C8.pe_c c_law_next hr (by decide) rfl (pa_cons (pv 0) (pa_cons pe_int pa_nil)))) pa_nil)) (blkOk_by (own := [("k", 3)]) (N := ["draws", "names", "first", "k"]) (sc := defScope sNames) (by decide +kernel)) (fun _ _ _ _ _ => (pg_name (i := 3) scNames.nd rfl (Or.inl rfl))) (fun _ _ _ _ _ => pts_nil) (fun _ _ _ _ _ => (pe_ix ix_list (pv 1) (pe_op op_mod (pe_op op_add (pv 2) (pv 3)) pe_int) (fun _ _ => rfl)))) pa_nil)))))), ?_⟩
  refine ⟨by show 5 ≤ sizeLine; decide, fun lz hlz => ?_⟩
  have s1 := same_new hlz (.lst ((["x", "y", "zz", "f", "q_1"] : List Str).map V.str))
  have e1 : upd H lz (.lst ((["x", "y", "zz", "f", "q_1"] : List Str).map V.str)) lz = some (.lst ((["x", "y", "zz", "f", "q_1"] : List Str).map V.str)) := upd_same
  generalize upd H lz (.lst ((["x", "y", "zz", "f", "q_1"] : List Str).map V.str)) = G1 at s1 e1 ⊢
  have d3 := d1.same s1
  have nl : lz ≠ p := (d1.fresh hlz).1
  refine ⟨_, rfl, p, r, 5, rfl, by decide, d3, fun fi H3 f0 f5 k3 d4 => ?_⟩
  refine ⟨_, rfl, p, r, 2, rfl, by decide, d4, fun n2 H4 n0 n2' k4 d5 => ?_⟩
  refine ⟨_, _, rfl, rfl, 1 + n2, rfl, by omega, by omega, fun D hD => ?_⟩
  refine lc_range (Pv := fun i G => ∃ ns : List Str, G D = some (.lst (ns.map V.str)) ∧ ns.length = i ∧ (∀ s ∈ ns, s ∈ ABC) ∧ Same H4 G) ⟨[], upd_same, rfl, (fun s h => absurd h List.not_mem_nil), same_new hD _⟩ ?_ ?_
  · rintro i G hi ⟨ns, h1, h2, h3, h4⟩
    refine ⟨rfl, ?_⟩
    refine tYes_if ?_
    obtain ⟨z, hz, ez⟩ := at_str (zs := ["x", "y", "zz", "f", "q_1"]) (i := (fi + (0 + (i : Int))) % 5) (Int.emod_nonneg _ (by decide)) (Int.emod_lt_of_pos _ (by decide))
    refine ⟨_, rfl, _, rfl, _, rfl, _, _, rfl, rfl, _, _, rfl, rfl, (show (0 : Int) < 5 by decide), lz, _, _, _, rfl, rfl, SqL.of (h4 _ _ (k4 _ _ nl (k3 _ _ nl e1))), ez, ?_⟩
    refine ⟨_, h1, (by rw [List.length_map]; exact szl (by omega)), ns ++ [z], (by rw [upd_same, List.map_append]; rfl), (by rw [List.length_append, h2]; rfl), (fun s hs => (List.mem_append.mp hs).elim (h3 s) fun q => by rw [List.mem_singleton.mp q]; exact abc2 z hz), same_upd hD h4 _⟩
  · rintro G ⟨ns, h1, h2, h3, h4⟩
    refine ⟨D, _, rfl, .inl ⟨SqL.of h1, fun t ht => ?_⟩⟩
    exact q t ns _ ⟨h3, by omega⟩ upd_same ((Keep.same s1).trans (k3.trans (k4.trans (Keep.same (sameT h4 (same_new ht _)))))) ((d5.same h4).same (same_new ht _))
end
def spExpr (n : Nat) : Sp := fun vs H Q _ => ∃ (p r : Addr) (d : Nat), vs = [.ref p, .int (d : Int)] ∧ d < n ∧ DrawsAt H p r ∧ ∀ (v : V) (e : Ex) (H' : Hp), Keep p H H' → DrawsAt H' p r → e.At H' v → Gx d e → Q v H'
def spUp (n : Nat) : Sp := fun vs H Q _ => ∃ (p r : Addr) (d : Nat), vs = [.ref p, .int ((d + 1 : Nat) : Int)] ∧ d < n ∧ DrawsAt H p r ∧ ∀ (v : V) (e : Ex) (H' : Hp), Keep p H H' → DrawsAt H' p r → e.At H' v → Gx (d + 1) e → Q v H'
section
variable {P : Program} {w : World} {K : PySem.W.Frag} {mg : Str → Option Value} {base : Heap}
abbrev sLet : Stmt := topS 14
theorem scLet : FnScope ["draws", "depth", "rows", "names", "first", "k", "params"] ["draws", "depth"] (defScope sLet) := ⟨rfl, rfl, rfl, by decide +kernel, rfl, by decide +kernel, by decide +kernel⟩
theorem c_let {f : Addr} {fd : FuncData} {n : Nat} (T : TxtF mg) (c_law_next : C8.Cal P w K mg base 2 "_law_next" spNext []) (c_law_names : C8.Cal P w K mg base 3 "_law_names" spNames []) (c_law_expr : C8.Cal P w K mg base (2 * n + 3) "_law_expr" (spExpr n) []) (F : Fun K "_law_let" "_law_let" sLet f fd) (b : Binds K fd ["draws", "depth"] []) (hm : mg "_law_let" = some (.ref f)) : C8.Cal P w K mg base (2 * n + 4) "_law_let" (spUp n) [] := by
  refine cal_of F hm b scLet (fun vs H Q E h => ?_) (fun cdv A outer s H vs Q E hr h => ?_)
  · obtain ⟨p, r, d, rfl, _⟩ := h
    rfl
  obtain ⟨p, r, d, rfl, hdn, d1, q⟩ := h
  refine ⟨_, (pss_cons (ps_set (i := 2) scLet.nd rfl (Or.inl rfl) (pe_lst pa_nil))
    (pss_cons (ps_set (i := 3) scLet.nd rfl (Or.inl rfl) (pe_lst (pa_strs (zs := ["f", "g", "x"]) rfl)))
    (pss_cons (ps_set (i := 4) scLet.nd rfl (Or.inl rfl) (C8.pe_c c_law_next hr (by omega) rfl (pa_cons (pv 0) (pa_cons pe_int pa_nil))))
    (pss_cons (ps_for PassesOwn.never rfl (pi_range1 rfl T.zrange (pa_cons (pe_op op_add pe_int (C8.pe_c c_law_next hr (by omega) rfl (pa_cons (pv 0) (pa_cons pe_int pa_nil)))) pa_nil)) (pg_name (i := 5) scLet.nd rfl (Or.inl rfl))
      (pss_cons (ps_set (i := 6) scLet.nd rfl (Or.inl rfl) (pe_tup pa_nil))
    (C8.pss_cut (ps_if (pt_cmpR op_eq (C8.pe_c c_law_next hr (by omega) rfl (pa_cons (pv 0) (pa_cons pe_int pa_nil))) pe_int (nomark _))
      (pss_one (ps_set (i := 6) scLet.nd rfl (Or.inl rfl) (C8.pe_c c_law_names hr (by omega) rfl (pa_cons (pv 0) pa_nil))))
      pss_nil)
    (C8.pss_cut (ps_if (pt_cmpR op_eq (C8.pe_c c_law_next hr (by omega) rfl (pa_cons (pv 0) (pa_cons pe_int pa_nil))) pe_int (nomark _))
      (pss_one (ps_expr (pe_bm PySem.F.plainAttrs_list PySem.F.slot_list_append PySem.F.type_list_append mt_append (pv 2) (pa_cons (pe_tup (pa_cons pe_str (pa_cons (pe_ix ix_list (pv 3) (pe_op op_mod (pe_op op_add (pv 4) (pv 5)) pe_int) (fun _ _ => rfl)) (pa_cons (pe_tup pa_nil) (pa_cons (pe_tup (pa_cons pe_str (pa_cons pe_str pa_nil))) pa_nil))))) pa_nil))))
      pss_nil)
    (pss_one (ps_expr (pe_bm PySem.F.plainAttrs_list PySem.F.slot_list_append PySem.F.type_list_append mt_append (pv 2) (pa_cons (pe_tup (pa_cons pe_str (pa_cons (pe_ix ix_list (pv 3) (pe_op op_mod (pe_op op_add (pv 4) (pv 5)) pe_int) (fun _ _ => rfl)) (pa_cons (pv 6) (pa_cons (C8.pe_c c_law_expr hr (by omega) rfl (pa_cons (pv 0) (pa_cons (pe_op op_sub (pv 1) pe_int) pa_nil))) pa_nil))))) pa_nil))))))))
    (pss_one (ps_ret (pe_tup (pa_cons pe_str (pa_cons (pe_callTy call_tuple_of rfl T.ztuple boot_tuple (pa_cons (pv 2) pa_nil)) (pa_cons (C8.pe_c c_law_expr hr (by omega) rfl (pa_cons (pv 0) (pa_cons (pe_op op_sub (pv 1) pe_int) pa_nil))) pa_nil)))))))))), ?_⟩
  have ed : ∀ x : V, [x, V.int (((d + 1 : Nat) : Int) - 1)] = [x, V.int (d : Int)] := fun x => by rw [show ((d + 1 : Nat) : Int) - 1 = (d : Int) by omega]
  refine ⟨by show 0 ≤ sizeLine; decide, fun R hR => ?_⟩
  have s1 := same_new hR (.lst [])
  have e1 : upd H R (.lst []) R = some (.lst []) := upd_same
  obtain ⟨nRp, nRr⟩ := d1.fresh hR
  have d2 := d1.same s1
  generalize upd H R (.lst []) = H1 at s1 e1 d2 ⊢
  refine ⟨by show 3 ≤ sizeLine; decide, fun lz hlz => ?_⟩
  have s2 := same_new hlz (.lst ((["f", "g", "x"] : List Str).map V.str))
  have e2 : upd H1 lz (.lst ((["f", "g", "x"] : List Str).map V.str)) lz = some (.lst ((["f", "g", "x"] : List Str).map V.str)) := upd_same
  obtain ⟨nlp, nlr⟩ := d2.fresh hlz
  have nlR : lz ≠ R := fun z => by rw [z, e1] at hlz; cases hlz
  have d3 := d2.same s2
  have e1' := s2 _ _ e1
  generalize upd H1 lz (.lst ((["f", "g", "x"] : List Str).map V.str)) = H2 at s2 e2 d3 e1' ⊢
  refine ⟨_, rfl, p, r, 3, rfl, by decide, d3, fun fi H3 f0 f3 k3 d4 => ?_⟩
  refine ⟨_, rfl, p, r, 3, rfl, by decide, d4, fun n2 H4 n0 n3 k4 d5 => ?_⟩
  refine ⟨_, _, rfl, rfl, 1 + n2, rfl, by omega, by omega, for_range
    (fun (i : Nat) σ G => ∃ (v5 v6 : Option V) (l : List Ex) (hs : List Hd) (xs : List V), σ = [some (.ref p), some (.int ((d + 1 : Nat) : Int)), some (.ref R), some (.ref lz), some (.int fi), v5, v6] ∧ Keep p H G ∧ G lz = some (.lst ((["f", "g", "x"] : List Str).map V.str)) ∧ DrawsAt G p r ∧ G R = some (.lst xs) ∧ Ex.Rows G l hs xs ∧ Gr d i l hs)
    ⟨_, _, [], [], [], rfl, (Keep.same s1).trans ((Keep.same s2).trans (k3.trans k4)), k4 _ _ nlp (k3 _ _ nlp e2), d5, k4 _ _ nRp (k3 _ _ nRp e1'), ⟨rfl, rfl⟩, gr_nil d⟩ ?_ ?_⟩
  · rintro i σ G hi ⟨v5, v6, l, hs, xs, rfl, kp, hlz', dG, hRG, hrows, hg⟩
    refine ⟨by show 0 ≤ sizeLine; decide, fun t0 ht0 => ?_⟩
    have s5 := same_new ht0 (.tup [])
    have e5 : upd G t0 (.tup []) t0 = some (.tup []) := upd_same
    generalize upd G t0 (.tup []) = G1 at s5 e5 ⊢
    have hlz1 := s5 _ _ hlz'
    obtain ⟨z, hz, ez⟩ := at_str (zs := ["f", "g", "x"]) (i := (fi + (0 + (i : Int))) % 3) (Int.emod_nonneg _ (by decide)) (Int.emod_lt_of_pos _ (by decide))
    have hi3 : i < 3 := by omega
    refine ⟨fun σ G2 => ∃ (t : Addr) (ps : List Str), σ = [some (.ref p), some (.int ((d + 1 : Nat) : Int)), some (.ref R), some (.ref lz), some (.int fi), some (.int (0 + (i : Int))), some (.ref t)] ∧ Keep p H G2 ∧ G2 lz = some (.lst ((["f", "g", "x"] : List Str).map V.str)) ∧ DrawsAt G2 p r ∧ G2 R = some (.lst xs) ∧ Ex.Rows G2 l hs xs ∧ G2 t = some (.tup (ps.map V.str)) ∧ NsOk ps, ?_, ?_⟩
    · refine ⟨_, rfl, p, r, 2, rfl, by decide, dG.same s5, fun m G2 m0 m2 k6 d6 => ⟨rfl, _, rfl, ?_⟩⟩
      have t6 : TK G G2 := (tk_same s5).trans (tk_keep k6 (dG.same s5).notup)
      refine ite2 (fun _ => ?_) (fun _ => ?_)
      · refine ⟨_, rfl, p, r, rfl, d6, fun t ps G3 ok hps k7 d7 => ?_⟩
        exact ⟨t, ps, rfl, kp.trans ((Keep.same s5).trans (k6.trans k7)), k7 _ _ nlp (k6 _ _ nlp hlz1), d7, k7 _ _ nRp (k6 _ _ nRp (s5 _ _ hRG)), (hrows.keep t6).keep (tk_keep k7 d6.notup), hps, ok⟩
      · exact ⟨t0, [], rfl, kp.trans ((Keep.same s5).trans k6), k6 _ _ nlp hlz1, d6, k6 _ _ nRp (s5 _ _ hRG), hrows.keep t6, tk_keep k6 (dG.same s5).notup _ _ e5, ⟨fun s h => absurd h List.not_mem_nil, Nat.zero_le _⟩⟩
    rintro σ G2 ⟨t, ps, rfl, kp2, hlz2, d6, hR2, hrows2, hps, ok⟩
    have hgl := hg.len
    have hxl := hrows2.len.1
    refine ⟨fun σ G3 => ∃ (l2 : List Ex) (hs2 : List Hd) (xs2 : List V), σ = [some (.ref p), some (.int ((d + 1 : Nat) : Int)), some (.ref R), some (.ref lz), some (.int fi), some (.int (0 + (i : Int))), some (.ref t)] ∧ Keep p H G3 ∧ G3 lz = some (.lst ((["f", "g", "x"] : List Str).map V.str)) ∧ DrawsAt G3 p r ∧ G3 R = some (.lst xs2) ∧ Ex.Rows G3 l2 hs2 xs2 ∧ G3 t = some (.tup (ps.map V.str)) ∧ l2.length ≤ 2 * i + 1 ∧ (l2 = l ∧ hs2 = hs ∨ l2 = l ++ [.var "f"] ∧ hs2 = hs ++ [none]), ?_, ?_⟩
    · refine ⟨_, rfl, p, r, 5, rfl, by decide, d6, fun m G3 m0 m2 k7 d7 => ⟨rfl, _, rfl, ?_⟩⟩
      have t7 : TK G2 G3 := tk_keep k7 d6.notup
      have hlz3 := k7 _ _ nlp hlz2
      have hR3 := k7 _ _ nRp hR2
      refine ite2 (fun _ => ?_) (fun _ => ?_)
      · refine ⟨_, rfl, .inl ⟨rfl, _, SqL.of hR3⟩, _, rfl, _, rfl, _, rfl, _, _, rfl, rfl, _, _, rfl, rfl, (show (0 : Int) < 3 by decide), lz, _, _, _, rfl, rfl, SqL.of hlz3, ez, ?_⟩
        refine ⟨by show 0 ≤ sizeLine; decide, fun t1 ht1 => ?_⟩
        have s8 := same_new ht1 (.tup [])
        refine ⟨by show 2 ≤ sizeLine; decide, fun t2 ht2 => ?_⟩
        have s9 := same_new ht2 (.tup [.str "name", .str "a"])
        refine ⟨by show 4 ≤ sizeLine; decide, fun t3 ht3 => ?_⟩
        have s10 := same_new ht3 (.tup [.str "sign", .str z, .ref t1, .ref t2])
        have s80 := sameT s8 (sameT s9 s10)
        have hR4 := s80 _ _ hR3
        have e10 : upd (upd (upd G3 t1 (.tup [])) t2 (.tup [.str "name", .str "a"])) t3 (.tup [.str "sign", .str z, .ref t1, .ref t2]) t3 = some (.tup [.str "sign", .str z, .ref t1, .ref t2]) := upd_same
        have d10 := d7.same s80
        generalize upd (upd (upd G3 t1 (.tup [])) t2 (.tup [.str "name", .str "a"])) t3 (.tup [.str "sign", .str z, .ref t1, .ref t2]) = G4 at s80 hR4 e10 d10 ⊢
        have t11 : TK G4 (upd G4 R (.lst (xs ++ [.ref t3]))) := tk_list hR4
        have tAll := t7.trans ((tk_same s80).trans t11)
        refine ⟨R, xs, .ref t3, rfl, rfl, hR4, szl (by omega), ?_⟩
        refine ⟨l ++ [.var "f"], hs ++ [none], xs ++ [.ref t3], rfl, keep_upd hR (kp2.trans (k7.trans (Keep.same s80))) _, by rw [upd_ne nlR]; exact s80 _ _ hlz3, d10.off nRp nRr _, upd_same, (hrows2.keep tAll).app ⟨none, [], t3, [], rfl, rfl, .inl ⟨rfl, _, t11 _ _ e10⟩, rfl, rfl⟩, tAll _ _ hps, by rw [List.length_append]; show _ + 1 ≤ _; omega, .inr ⟨rfl, rfl⟩⟩
      · exact ⟨l, hs, xs, rfl, kp2.trans k7, hlz3, d7, hR3, hrows2.keep t7, t7 _ _ hps, by omega, .inl ⟨rfl, rfl⟩⟩
    rintro σ G3 ⟨l2, hs2, xs2, rfl, kp3, hlz3, d7, hR3, hrows3, hps3, hl2, hor⟩
    have hxl2 := hrows3.len.1
    refine ⟨_, rfl, .inl ⟨rfl, _, SqL.of hR3⟩, _, rfl, _, rfl, _, rfl, _, _, rfl, rfl, _, _, rfl, rfl, (show (0 : Int) < 3 by decide), lz, _, _, _, rfl, rfl, SqL.of hlz3, ez, _, rfl, _, rfl, _, rfl, _, _, rfl, rfl, p, r, d, ed _, hdn, d7, fun ve e G5 kp5 d8 at5 g5 => ?_⟩
    have t8 : TK G3 G5 := tk_keep kp5 d7.notup
    refine ⟨by show 4 ≤ sizeLine; decide, fun t3 ht3 => ?_⟩
    have s10 := same_new ht3 (.tup [.str "define", .str z, .ref t, ve])
    have e10 : upd G5 t3 (.tup [.str "define", .str z, .ref t, ve]) t3 = some (.tup [.str "define", .str z, .ref t, ve]) := upd_same
    have hR4 := s10 _ _ (kp5 _ _ nRp hR3)
    have d10 := d8.same s10
    generalize upd G5 t3 (.tup [.str "define", .str z, .ref t, ve]) = G6 at s10 e10 hR4 d10 ⊢
    have t11 : TK G6 (upd G6 R (.lst (xs2 ++ [.ref t3]))) := tk_list hR4
    have tAll := t8.trans ((tk_same s10).trans t11)
    refine ⟨R, xs2, .ref t3, rfl, rfl, hR4, szl (by omega), ?_⟩
    refine ⟨_, _, l2 ++ [e], hs2 ++ [some (z, ps)], xs2 ++ [.ref t3], rfl, keep_upd hR (kp3.trans (kp5.trans (Keep.same s10))) _, by rw [upd_ne nlR]; exact s10 _ _ (kp5 _ _ nlp hlz3), d10.off nRp nRr _, upd_same, (hrows3.keep tAll).app ⟨some (z, ps), [], t3, [], rfl, rfl, .inr ⟨(z, ps), t, ve, rfl, t11 _ _ e10, tAll _ _ hps3, ok, at5.keep ((tk_same s10).trans t11)⟩, rfl, rfl⟩, ?_⟩
    rcases hor with ⟨rfl, rfl⟩ | ⟨rfl, rfl⟩
    · exact gr_one hg g5 (abc3 z hz)
    · exact gr_two hg g5 (abc3 z hz)
  rintro σ G ⟨v5, v6, l, hs, xs, rfl, kp, hlz', dG, hRG, hrows, hg⟩
  have hg3 := gr_mono hg (show (1 + n2).toNat ≤ 3 by omega)
  refine ⟨_, rfl, R, xs, rfl, .inl ⟨SqL.of hRG, fun u hu => ?_⟩⟩
  have s5 := same_new hu (.tup xs)
  have e5 : upd G u (.tup xs) u = some (.tup xs) := upd_same
  generalize upd G u (.tup xs) = G1 at s5 e5 ⊢
  have d5' := dG.same s5
  refine ⟨_, rfl, _, rfl, _, _, rfl, rfl, p, r, d, ed _, hdn, d5', fun ve e G2 k6 d6 at6 g6 => ?_⟩
  refine ⟨by show 3 ≤ sizeLine; decide, fun t ht => ?_⟩
  have t6 : TK G1 G2 := tk_keep k6 d5'.notup
  have t7 : TK G2 (upd G2 t (.tup [.str "let", .ref u, ve])) := tk_new ht
  exact q _ (.lt hs l e) _ (kp.trans ((Keep.same s5).trans (k6.trans (Keep.same (same_new ht _))))) (d6.same (same_new ht _)) ⟨t, u, xs, ve, rfl, upd_same, t7 _ _ (t6 _ _ e5), ((hrows.keep (tk_same s5)).keep t6).keep t7, ⟨hg3.abc, by have := hg3.nm; omega⟩, at6.keep t7⟩ (gx_lt g6 hg3)
end
end Toy

set_option Elab.async false
set_option linter.all false
set_option maxRecDepth 100000
set_option maxHeartbeats 4000000
/-! Part G: the law's cases and expressions. -/
namespace Toy
open PySem L2
open PyProof.Rows (envOfC)
theorem ns_nil : NsOk [] := ⟨fun s h => absurd h List.not_mem_nil, Nat.zero_le _⟩
theorem ns_xy : NsOk ["x", "y"] := ⟨by decide +kernel, by decide⟩
theorem ns_one {z : Str} (h : z ∈ ABC) : NsOk [z] := ⟨fun s hs => by rw [List.mem_singleton.mp hs]; exact h, by show 1 ≤ 5; decide⟩
section
variable {P : Program} {w : World} {K : PySem.W.Frag} {mg : Str → Option Value} {base : Heap}
abbrev sCase : Stmt := topS 15
theorem scCase : FnScope ["draws", "depth", "rows", "kind"] ["draws", "depth"] (defScope sCase) := ⟨rfl, rfl, rfl, by decide +kernel, rfl, by decide +kernel, by decide +kernel⟩
theorem c_case {f : Addr} {fd : FuncData} {n : Nat} (T : TxtF mg) (c_law_next : C8.Cal P w K mg base 2 "_law_next" spNext []) (c_law_name : C8.Cal P w K mg base 3 "_law_name" spName []) (c_law_expr : C8.Cal P w K mg base (2 * n + 3) "_law_expr" (spExpr n) []) (F : Fun K "_law_case" "_law_case" sCase f fd) (b : Binds K fd ["draws", "depth"] []) (hm : mg "_law_case" = some (.ref f)) : C8.Cal P w K mg base (2 * n + 4) "_law_case" (spUp n) [] := by
  refine cal_of F hm b scCase (fun vs H Q E h => ?_) (fun cdv A outer s H vs Q E hr h => ?_)
  · obtain ⟨p, r, d, rfl, _⟩ := h
    rfl
  obtain ⟨p, r, d, rfl, hdn, d1, q⟩ := h
  refine ⟨_, (pss_cons (ps_set (i := 2) scCase.nd rfl (Or.inl rfl) (pe_lst pa_nil))
    (pss_cons (ps_set (i := 3) scCase.nd rfl (Or.inl rfl) (C8.pe_c c_law_next hr (by omega) rfl (pa_cons (pv 0) (pa_cons pe_int pa_nil))))
    (C8.pss_cut (ps_if (pt_cmpR op_eq (pv 3) pe_int (nomark _))
      (pss_one (ps_expr (pe_bm PySem.F.plainAttrs_list PySem.F.slot_list_append PySem.F.type_list_append mt_append (pv 2) (pa_cons (pe_tup (pa_cons (pe_tup (pa_cons pe_str (pa_cons pe_str (pa_cons (pe_tup (pa_cons pe_str (pa_cons pe_str pa_nil))) pa_nil)))) (pa_cons (C8.pe_c c_law_expr hr (by omega) rfl (pa_cons (pv 0) (pa_cons (pe_op op_sub (pv 1) pe_int) pa_nil))) pa_nil))) pa_nil))))
      pss_nil)
    (C8.pss_cut (ps_if (pt_cmpR op_eq (pv 3) pe_int (nomark _))
      (pss_one (ps_expr (pe_bm PySem.F.plainAttrs_list PySem.F.slot_list_append PySem.F.type_list_append mt_append (pv 2) (pa_cons (pe_tup (pa_cons (pe_tup (pa_cons pe_str (pa_cons (C8.pe_c c_law_next hr (by omega) rfl (pa_cons (pv 0) (pa_cons pe_int pa_nil))) pa_nil))) (pa_cons (C8.pe_c c_law_expr hr (by omega) rfl (pa_cons (pv 0) (pa_cons (pe_op op_sub (pv 1) pe_int) pa_nil))) pa_nil))) pa_nil))))
      pss_nil)
    (pss_cons (ps_expr (pe_bm PySem.F.plainAttrs_list PySem.F.slot_list_append PySem.F.type_list_append mt_append (pv 2) (pa_cons (pe_tup (pa_cons (pe_tup (pa_cons pe_str (pa_cons (C8.pe_c c_law_name hr (by omega) rfl (pa_cons (pv 0) pa_nil)) pa_nil))) (pa_cons (C8.pe_c c_law_expr hr (by omega) rfl (pa_cons (pv 0) (pa_cons (pe_op op_sub (pv 1) pe_int) pa_nil))) pa_nil))) pa_nil)))
    (pss_one (ps_ret (pe_tup (pa_cons pe_str (pa_cons (C8.pe_c c_law_expr hr (by omega) rfl (pa_cons (pv 0) (pa_cons (pe_op op_sub (pv 1) pe_int) pa_nil))) (pa_cons (pe_callTy call_tuple_of rfl T.ztuple boot_tuple (pa_cons (pv 2) pa_nil)) pa_nil))))))))))), ?_⟩
  have ed : ∀ x : V, [x, V.int (((d + 1 : Nat) : Int) - 1)] = [x, V.int (d : Int)] := fun x => by rw [show ((d + 1 : Nat) : Int) - 1 = (d : Int) by omega]
  refine ⟨by show 0 ≤ sizeLine; decide, fun R hR => ?_⟩
  have s1 := same_new hR (.lst [])
  have e1 : upd H R (.lst []) R = some (.lst []) := upd_same
  obtain ⟨nRp, nRr⟩ := d1.fresh hR
  have d2 := d1.same s1
  generalize upd H R (.lst []) = H1 at s1 e1 d2 ⊢
  refine ⟨_, rfl, p, r, 3, rfl, by decide, d2, fun kd H2 f0 f3 k3 d3 => ?_⟩
  have hR2 := k3 _ _ nRp e1
  have kp2 : Keep p H H2 := (Keep.same s1).trans k3
  refine ⟨fun σ G => ∃ (l : List Ex) (ps : List Pt) (xs : List V), σ = [some (.ref p), some (.int ((d + 1 : Nat) : Int)), some (.ref R), some (.int kd)] ∧ Keep p H G ∧ DrawsAt G p r ∧ G R = some (.lst xs) ∧ Ex.Alts G l ps xs ∧ (l = [] ∧ xs = [] ∨ kd = 0 ∧ Gxs d 1 l), ?_, ?_⟩
  · refine ⟨_, rfl, rfl, _, rfl, ?_⟩
    refine ite2 (fun hk => ?_) (fun _ => ?_)
    · have hk0 : kd = 0 := by
        have z : (kd == 0) = true := by rw [← dec_int]; exact hk
        exact eq_of_beq z
      refine ⟨_, rfl, .inl ⟨rfl, _, SqL.of hR2⟩, ?_⟩
      refine ⟨by show 2 ≤ sizeLine; decide, fun t1 ht1 => ?_⟩
      have s4 := same_new ht1 (.tup [.str "x", .str "y"])
      have e4 : upd H2 t1 (.tup [.str "x", .str "y"]) t1 = some (.tup [.str "x", .str "y"]) := upd_same
      generalize upd H2 t1 (.tup [.str "x", .str "y"]) = H3 at s4 e4 ⊢
      refine ⟨by show 3 ≤ sizeLine; decide, fun t2 ht2 => ?_⟩
      have s5 := same_new ht2 (.tup [.str "pcon", .str "Cons", .ref t1])
      have e5 : upd H3 t2 (.tup [.str "pcon", .str "Cons", .ref t1]) t2 = some (.tup [.str "pcon", .str "Cons", .ref t1]) := upd_same
      generalize upd H3 t2 (.tup [.str "pcon", .str "Cons", .ref t1]) = H4 at s5 e5 ⊢
      have d4 := (d3.same s4).same s5
      refine ⟨_, rfl, _, rfl, _, _, rfl, rfl, p, r, d, ed _, hdn, d4, fun ve e H5 k5 d5 at5 g5 => ?_⟩
      have t5 := tk_keep k5 d4.notup
      refine ⟨by show 2 ≤ sizeLine; decide, fun t3 ht3 => ?_⟩
      have s6 := same_new ht3 (.tup [.ref t2, ve])
      have e6 : upd H5 t3 (.tup [.ref t2, ve]) t3 = some (.tup [.ref t2, ve]) := upd_same
      have hR6 := s6 _ _ (k5 _ _ nRp (s5 _ _ (s4 _ _ hR2)))
      have d6 := d5.same s6
      generalize upd H5 t3 (.tup [.ref t2, ve]) = H6 at s6 e6 hR6 d6 ⊢
      have t7 : TK H6 (upd H6 R (.lst ([] ++ [.ref t3]))) := tk_list hR6
      have t47 := t5.trans ((tk_same s6).trans t7)
      refine ⟨R, [], .ref t3, rfl, rfl, hR6, by show 0 < sizeLine; decide, ?_⟩
      exact ⟨[e], [.con "Cons" ["x", "y"]], [.ref t3], rfl, keep_upd hR (kp2.trans ((Keep.same s4).trans ((Keep.same s5).trans (k5.trans (Keep.same s6))))) _, d6.off nRp nRr _, upd_same, ⟨_, [], t3, .ref t2, ve, [], rfl, rfl, t7 _ _ e6, ⟨t2, t1, rfl, t47 _ _ e5, t47 _ _ (s5 _ _ e4)⟩, ns_xy, at5.keep ((tk_same s6).trans t7), rfl, rfl⟩, .inr ⟨hk0, gxs_snoc (gxs_nil d) g5⟩⟩
    · exact ⟨[], [], [], rfl, kp2, d3, hR2, ⟨rfl, rfl⟩, .inl ⟨rfl, rfl⟩⟩
  rintro σ H3 ⟨l, ps, xs, rfl, kp3, d4, hR3, halts, hor⟩
  refine ⟨fun σ G => ∃ (l : List Ex) (ps : List Pt) (xs : List V), σ = [some (.ref p), some (.int ((d + 1 : Nat) : Int)), some (.ref R), some (.int kd)] ∧ Keep p H G ∧ DrawsAt G p r ∧ G R = some (.lst xs) ∧ Ex.Alts G l ps xs ∧ Gxs d 1 l, ?_, ?_⟩
  · refine ⟨_, rfl, rfl, _, rfl, ?_⟩
    refine ite2 (fun hk => ?_) (fun _ => ?_)
    · have hk1 : kd = 1 := by
        have z : (kd == 1) = true := by rw [← dec_int]; exact hk
        exact eq_of_beq z
      obtain ⟨rfl, rfl⟩ : l = [] ∧ xs = [] := hor.elim id fun z => by omega
      refine ⟨_, rfl, .inl ⟨rfl, _, SqL.of hR3⟩, _, rfl, p, r, 9, rfl, by decide, d4, fun m H4 m0 m9 k4 d5 => ?_⟩
      refine ⟨by show 2 ≤ sizeLine; decide, fun t2 ht2 => ?_⟩
      have s5 := same_new ht2 (.tup [.str "pnum", .int m])
      have e5 : upd H4 t2 (.tup [.str "pnum", .int m]) t2 = some (.tup [.str "pnum", .int m]) := upd_same
      generalize upd H4 t2 (.tup [.str "pnum", .int m]) = H5 at s5 e5 ⊢
      have d6 := d5.same s5
      refine ⟨_, rfl, _, rfl, _, _, rfl, rfl, p, r, d, ed _, hdn, d6, fun ve e H6 k6 d7 at6 g6 => ?_⟩
      have t6 := tk_keep k6 d6.notup
      refine ⟨by show 2 ≤ sizeLine; decide, fun t3 ht3 => ?_⟩
      have s7 := same_new ht3 (.tup [.ref t2, ve])
      have e7 : upd H6 t3 (.tup [.ref t2, ve]) t3 = some (.tup [.ref t2, ve]) := upd_same
      have hR7 := s7 _ _ (k6 _ _ nRp (s5 _ _ (k4 _ _ nRp hR3)))
      have d8 := d7.same s7
      generalize upd H6 t3 (.tup [.ref t2, ve]) = H7 at s7 e7 hR7 d8 ⊢
      have t8 : TK H7 (upd H7 R (.lst ([] ++ [.ref t3]))) := tk_list hR7
      refine ⟨R, [], .ref t3, rfl, rfl, hR7, by show 0 < sizeLine; decide, ?_⟩
      exact ⟨[e], [.num m], [.ref t3], rfl, keep_upd hR (kp3.trans (k4.trans ((Keep.same s5).trans (k6.trans (Keep.same s7))))) _, d8.off nRp nRr _, upd_same, ⟨_, [], t3, .ref t2, ve, [], rfl, rfl, t8 _ _ e7, ⟨t2, rfl, t8 _ _ (s7 _ _ (t6 _ _ e5))⟩, ns_nil, at6.keep ((tk_same s7).trans t8), rfl, rfl⟩, gxs_snoc (gxs_nil d) g6⟩
    · refine ⟨l, ps, xs, rfl, kp3, d4, hR3, halts, hor.elim (fun z => ?_) fun z => z.2⟩
      rw [z.1]
      exact gxs_mono (gxs_nil d) (Nat.zero_le _)
  clear hor halts hR3 d4 kp3 xs ps l
  rintro σ H4 ⟨l, ps, xs, rfl, kp4, d5, hR4, halts, hg⟩
  have hxl := halts.len.1
  have hgl := hg.len
  refine ⟨_, rfl, .inl ⟨rfl, _, SqL.of hR4⟩, _, rfl, p, r, rfl, d5, fun z H5 hz k5 d6 => ?_⟩
  refine ⟨by show 2 ≤ sizeLine; decide, fun t2 ht2 => ?_⟩
  have s6 := same_new ht2 (.tup [.str "pname", .str z])
  have e6 : upd H5 t2 (.tup [.str "pname", .str z]) t2 = some (.tup [.str "pname", .str z]) := upd_same
  generalize upd H5 t2 (.tup [.str "pname", .str z]) = H6 at s6 e6 ⊢
  have d7 := d6.same s6
  refine ⟨_, rfl, _, rfl, _, _, rfl, rfl, p, r, d, ed _, hdn, d7, fun ve e H7 k7 d8 at7 g7 => ?_⟩
  have t5 := tk_keep k5 d5.notup
  have t7 := tk_keep k7 d7.notup
  refine ⟨by show 2 ≤ sizeLine; decide, fun t3 ht3 => ?_⟩
  have s8 := same_new ht3 (.tup [.ref t2, ve])
  have e8 : upd H7 t3 (.tup [.ref t2, ve]) t3 = some (.tup [.ref t2, ve]) := upd_same
  have hR8 := s8 _ _ (k7 _ _ nRp (s6 _ _ (k5 _ _ nRp hR4)))
  have d9 := d8.same s8
  generalize upd H7 t3 (.tup [.ref t2, ve]) = H8 at s8 e8 hR8 d9 ⊢
  refine ⟨R, xs, .ref t3, rfl, rfl, hR8, szl (by omega), ?_⟩
  have t9 : TK H8 (upd H8 R (.lst (xs ++ [.ref t3]))) := tk_list hR8
  have d10 := d9.off nRp nRr (.lst (xs ++ [.ref t3]))
  have kp9 := keep_upd hR (kp4.trans (k5.trans ((Keep.same s6).trans (k7.trans (Keep.same s8))))) (.lst (xs ++ [.ref t3]))
  have e9 : upd H8 R (.lst (xs ++ [.ref t3])) R = some (.lst (xs ++ [.ref t3])) := upd_same
  generalize upd H8 R (.lst (xs ++ [.ref t3])) = H9 at t9 d10 kp9 e9 ⊢
  have tAll := t5.trans ((tk_same s6).trans (t7.trans ((tk_same s8).trans t9)))
  have alts9 : Ex.Alts H9 (l ++ [e]) (ps ++ [.nm z]) (xs ++ [.ref t3]) := (halts.keep tAll).app ⟨_, [], t3, .ref t2, ve, [], rfl, rfl, t9 _ _ e8, ⟨t2, rfl, t9 _ _ (s8 _ _ (t7 _ _ e6))⟩, ns_one hz, at7.keep ((tk_same s8).trans t9), rfl, rfl⟩
  refine ⟨_, rfl, _, rfl, _, _, rfl, rfl, p, r, d, ed _, hdn, d10, fun vc ec HA kA dA atA gA => ?_⟩
  have tA := tk_keep kA d10.notup
  refine ⟨_, rfl, R, _, rfl, .inl ⟨SqL.of (kA _ _ nRp e9), fun u hu => ?_⟩⟩
  have tB : TK HA (upd HA u (.tup (xs ++ [.ref t3]))) := tk_new hu
  refine ⟨by show 3 ≤ sizeLine; decide, fun t ht => ?_⟩
  have tC : TK (upd HA u (.tup (xs ++ [.ref t3]))) (upd (upd HA u (.tup (xs ++ [.ref t3]))) t (.tup [.str "case", vc, .ref u])) := tk_new ht
  exact q _ (.cs ec (ps ++ [.nm z]) (l ++ [e])) _ (kp9.trans (kA.trans ((Keep.same (same_new hu _)).trans (Keep.same (same_new ht _))))) ((dA.same (same_new hu _)).same (same_new ht _)) ⟨t, u, _, vc, rfl, upd_same, tC _ _ upd_same, ((alts9.keep tA).keep tB).keep tC, (atA.keep tB).keep tC⟩ (gx_cs gA (gxs_snoc hg g7))
end
end Toy

set_option Elab.async false
set_option linter.all false
set_option maxRecDepth 100000
set_option maxHeartbeats 4000000
/-! Part H: the law's expressions. -/
namespace Toy
open PySem L2
open PyProof.Rows (envOfC)
theorem int_eq {i j : Int} (h : decide (V.int i = V.int j) = true) : i = j := V.int.inj (of_decide_eq_true h)
section
variable {P : Program} {w : World} {K : PySem.W.Frag} {mg : Str → Option Value} {base : Heap}
abbrev sExpr : Stmt := topS 16
theorem scExpr : FnScope ["draws", "depth", "pick", "k"] ["draws", "depth"] (defScope sExpr) := ⟨rfl, rfl, rfl, by decide +kernel, rfl, by decide +kernel, by decide +kernel⟩
theorem c_expr {f fl fc : Addr} {fd fdl fdc : FuncData} (T : TxtF mg) (c_law_next : C8.Cal P w K mg base 2 "_law_next" spNext []) (c_law_name : C8.Cal P w K mg base 3 "_law_name" spName []) (c_law_names : C8.Cal P w K mg base 3 "_law_names" spNames [])
    (F : Fun K "_law_expr" "_law_expr" sExpr f fd) (b : Binds K fd ["draws", "depth"] []) (hm : mg "_law_expr" = some (.ref f)) (FL : Fun K "_law_let" "_law_let" sLet fl fdl) (bL : Binds K fdl ["draws", "depth"] []) (hmL : mg "_law_let" = some (.ref fl))
    (FC : Fun K "_law_case" "_law_case" sCase fc fdc) (bC : Binds K fdc ["draws", "depth"] []) (hmC : mg "_law_case" = some (.ref fc)) : ∀ n : Nat, C8.Cal P w K mg base (2 * n + 3) "_law_expr" (spExpr n) []
  | 0 => cal_none F hm b fun vs H Q E ⟨p, r, d, _, h, _⟩ => Nat.not_lt_zero _ h
  | n + 1 => by
    have c_law_expr := c_expr T c_law_next c_law_name c_law_names F b hm FL bL hmL FC bC hmC n
    have c_law_let := c_let T c_law_next c_law_names c_law_expr FL bL hmL
    have c_law_case := c_case T c_law_next c_law_name c_law_expr FC bC hmC
    refine cal_of F hm b scExpr (fun vs H Q E h => ?_) (fun cdv A outer s H vs Q E hr h => ?_)
    · obtain ⟨p, r, d, rfl, _⟩ := h
      rfl
    obtain ⟨p, r, d, rfl, hdn, hD, q⟩ := h
    refine ⟨_, (pss_cons (ps_set (i := 2) scExpr.nd rfl (Or.inl rfl) (C8.pe_c c_law_next hr (by omega) rfl (pa_cons (pv 0) (pa_cons pe_int pa_nil))))
    (pss_cons (ps_if (PW.pt (pw_or (pt_cmpR op_eq (pv 1) pe_int (nomark _)) (pw_or1 (pt_cmpR op_lt (pv 2) pe_int (nomark _)))))
      (pss_one (ps_ret (pe_tup (pa_cons pe_str (pa_cons (C8.pe_c c_law_name hr (by omega) rfl (pa_cons (pv 0) pa_nil)) pa_nil)))))
      pss_nil)
    (pss_cons (ps_if (pt_cmpR op_eq (pv 2) pe_int (nomark _))
      (pss_one (ps_ret (pe_tup (pa_cons pe_str (pa_cons (C8.pe_c c_law_next hr (by omega) rfl (pa_cons (pv 0) (pa_cons pe_int pa_nil))) pa_nil)))))
      pss_nil)
    (pss_cons (ps_if (pt_cmpR op_eq (pv 2) pe_int (nomark _))
      (pss_one (ps_ret (pe_tup (pa_cons pe_str (pa_cons (pe_ix ix_list (pe_lst (pa_cons pe_str (pa_cons pe_str pa_nil))) (C8.pe_c c_law_next hr (by omega) rfl (pa_cons (pv 0) (pa_cons pe_int pa_nil))) (fun _ _ => rfl)) pa_nil)))))
      pss_nil)
    (pss_cons (ps_if (pt_cmpR op_lt (pv 2) pe_int (nomark _))
      (pss_one (ps_ret (pe_tup (pa_cons pe_str (pa_cons (C8.pe_c c_law_expr hr (by omega) rfl (pa_cons (pv 0) (pa_cons (pe_op op_sub (pv 1) pe_int) pa_nil))) (pa_cons (C8.pe_c c_law_expr hr (by omega) rfl (pa_cons (pv 0) (pa_cons (pe_op op_sub (pv 1) pe_int) pa_nil))) pa_nil))))))
      pss_nil)
    (pss_cons (ps_if (pt_cmpR op_lt (pv 2) pe_int (nomark _))
      (pss_one (ps_ret (pe_tup (pa_cons pe_str (pa_cons (C8.pe_c c_law_names hr (by omega) rfl (pa_cons (pv 0) pa_nil)) (pa_cons (C8.pe_c c_law_expr hr (by omega) rfl (pa_cons (pv 0) (pa_cons (pe_op op_sub (pv 1) pe_int) pa_nil))) pa_nil))))))
      pss_nil)
    (pss_cons (ps_if (pt_cmpR op_eq (pv 2) pe_int (nomark _))
      (pss_one (ps_ret (C8.pe_c c_law_let hr (by omega) rfl (pa_cons (pv 0) (pa_cons (pv 1) pa_nil)))))
      pss_nil)
    (pss_cons (ps_if (pt_cmpR op_eq (pv 2) pe_int (nomark _))
      (pss_one (ps_ret (C8.pe_c c_law_case hr (by omega) rfl (pa_cons (pv 0) (pa_cons (pv 1) pa_nil)))))
      pss_nil)
    (pss_cons (ps_if (pt_cmpR op_eq (pv 2) pe_int (nomark _))
      (pss_one (ps_ret (pe_tup (pa_cons pe_str (pa_cons (C8.pe_c c_law_expr hr (by omega) rfl (pa_cons (pv 0) (pa_cons (pe_op op_sub (pv 1) pe_int) pa_nil))) (pa_cons (C8.pe_c c_law_expr hr (by omega) rfl (pa_cons (pv 0) (pa_cons (pe_op op_sub (pv 1) pe_int) pa_nil))) (pa_cons (C8.pe_c c_law_expr hr (by omega) rfl (pa_cons (pv 0) (pa_cons (pe_op op_sub (pv 1) pe_int) pa_nil))) pa_nil)))))))
      pss_nil)
    (pss_cons (ps_if (pt_cmpR op_eq (pv 2) pe_int (nomark _))
      (pss_one (ps_ret (pe_tup (pa_cons pe_str (pa_cons (pe_ix ix_list (pe_lst (pa_strs (zs := ["+", ":", "<="]) rfl)) (C8.pe_c c_law_next hr (by omega) rfl (pa_cons (pv 0) (pa_cons pe_int pa_nil))) (fun _ _ => rfl)) (pa_cons (C8.pe_c c_law_expr hr (by omega) rfl (pa_cons (pv 0) (pa_cons (pe_op op_sub (pv 1) pe_int) pa_nil))) (pa_cons (C8.pe_c c_law_expr hr (by omega) rfl (pa_cons (pv 0) (pa_cons (pe_op op_sub (pv 1) pe_int) pa_nil))) pa_nil)))))))
      pss_nil)
    (pss_cons (ps_if (pt_cmpR op_eq (C8.pe_c c_law_next hr (by omega) rfl (pa_cons (pv 0) (pa_cons pe_int pa_nil))) pe_int (nomark _))
      (pss_one (ps_ret (pe_tup (pa_cons pe_str (pa_cons (C8.pe_c c_law_next hr (by omega) rfl (pa_cons (pv 0) (pa_cons pe_int pa_nil))) (pa_cons (C8.pe_c c_law_expr hr (by omega) rfl (pa_cons (pv 0) (pa_cons (pe_op op_sub (pv 1) pe_int) pa_nil))) pa_nil))))))
      pss_nil)
    (pss_one (ps_ret (pe_tup (pa_cons pe_str (pa_cons (pe_callTy call_tuple_of rfl T.ztuple boot_tuple (pa_cons (pe_lc (own := [("k", 3)]) (g := gName 3) (tt := tYes) rfl scExpr.nd (pi_range1 rfl T.zrange (pa_cons (C8.pe_c c_law_next hr (by omega) rfl (pa_cons (pv 0) (pa_cons pe_int pa_nil))) pa_nil)) (blkOk_by (own := [("k", 3)]) (N := ["draws", "depth", "pick", "k"]) (sc := defScope sExpr) (by decide +kernel)) (fun _ _ _ _ _ => (pg_name (i := 3) scExpr.nd rfl (Or.inl rfl))) (fun _ _ _ _ _ => pts_nil) (fun _ _ _ _ _ => (C8.pe_c c_law_expr hr (by omega) rfl (pa_cons (pv 0) (pa_cons (pe_op op_sub (pv 1) pe_int) pa_nil))))) pa_nil)) pa_nil)))))))))))))))), ?_⟩
    refine ⟨_, rfl, p, r, 14, rfl, by decide, hD, fun pick H1 h0 h9 k1 d1 => ?_⟩
    refine ⟨_, rfl, rfl, _, rfl, ?_⟩
    by_cases hd0 : d = 0
    · have z : decide (V.int (d : Int) = V.int 0) = true := by rw [hd0]; exact decide_eq_true rfl
      show if decide (V.int (d : Int) = V.int 0) = true then _ else _
      rw [z]
      refine iteT (iteT ?_)
      refine ⟨_, rfl, p, r, rfl, d1, fun z H2 hz k2 d2 => ?_⟩
      refine ⟨by show 2 ≤ sizeLine; decide, fun t ht => ?_⟩
      exact q _ (.var z) _ (k1.trans (k2.trans (Keep.same (same_new ht _)))) (d2.same (same_new ht _)) ⟨t, rfl, upd_same, hz⟩ gx_var
    have z : decide (V.int (d : Int) = V.int 0) = false := by
      rw [dec_int, beq_eq_false_iff_ne]
      omega
    show if decide (V.int (d : Int) = V.int 0) = true then _ else _
    rw [z]
    refine iteF ?_
    refine ⟨_, rfl, _, _, rfl, rfl, _, rfl, ?_⟩
    refine ite2 (fun _ => ?_) (fun _ => ?_)
    · skip
      refine ⟨_, rfl, p, r, rfl, d1, fun z H2 hz k2 d2 => ?_⟩
      refine ⟨by show 2 ≤ sizeLine; decide, fun t ht => ?_⟩
      exact q _ (.var z) _ (k1.trans (k2.trans (Keep.same (same_new ht _)))) (d2.same (same_new ht _)) ⟨t, rfl, upd_same, hz⟩ gx_var
    obtain ⟨e, rfl⟩ : ∃ e, d = e + 1 := ⟨d - 1, by omega⟩
    have ed : ∀ x : V, [x, V.int (((e + 1 : Nat) : Int) - 1)] = [x, V.int (e : Int)] := fun x => by rw [show ((e + 1 : Nat) : Int) - 1 = (e : Int) by omega]
    refine ⟨_, rfl, rfl, _, rfl, ?_⟩
    refine ite2 (fun _ => ?_) (fun _ => ?_)
    · refine ⟨_, rfl, p, r, 100, rfl, by decide, d1, fun m H2 m0 m1 k2 d2 => ?_⟩
      refine ⟨by show 2 ≤ sizeLine; decide, fun t ht => ?_⟩
      exact q _ (.pl "num" (some (.int m)) []) _ (k1.trans (k2.trans (Keep.same (same_new ht _)))) (d2.same (same_new ht _)) ⟨t, [], rfl, upd_same, rfl, .inl ⟨.inl rfl, ⟨_, rfl⟩, rfl⟩⟩ gx_pl0
    refine ⟨_, rfl, rfl, _, rfl, ?_⟩
    refine ite2 (fun _ => ?_) (fun _ => ?_)
    · refine ⟨by show 2 ≤ sizeLine; decide, fun lz hlz => ?_⟩
      have s1 := same_new hlz (.lst [.str "Nil", .str "True"])
      have e1 : upd H1 lz (.lst [.str "Nil", .str "True"]) lz = some (.lst ((["Nil", "True"] : List Str).map V.str)) := upd_same
      generalize upd H1 lz (.lst [.str "Nil", .str "True"]) = G1 at s1 e1 ⊢
      have d2 := d1.same s1
      have nl : lz ≠ p := (d1.fresh hlz).1
      refine ⟨_, rfl, p, r, 2, rfl, by decide, d2, fun m H2 m0 m1 k2 d3 => ?_⟩
      obtain ⟨z, hz, ez⟩ := at_str (zs := ["Nil", "True"]) m0 m1
      refine ⟨lz, _, m, _, rfl, rfl, SqL.of (k2 _ _ nl e1), ez, ?_⟩
      refine ⟨by show 2 ≤ sizeLine; decide, fun t ht => ?_⟩
      exact q _ (.pl "con" (some (.str z)) []) _ (k1.trans ((Keep.same s1).trans (k2.trans (Keep.same (same_new ht _))))) (d3.same (same_new ht _)) ⟨t, [], rfl, upd_same, rfl, .inl ⟨.inr rfl, ⟨_, rfl⟩, rfl⟩⟩ gx_pl0
    refine ⟨_, rfl, _, _, rfl, rfl, _, rfl, ?_⟩
    refine ite2 (fun _ => ?_) (fun _ => ?_)
    · refine ⟨_, rfl, _, rfl, _, _, rfl, rfl, p, r, e, ed _, by omega, d1, fun va a H2 k2 d2 at2' g2 => ?_⟩
      refine ⟨_, rfl, _, rfl, _, _, rfl, rfl, p, r, e, ed _, by omega, d2, fun vb b2 H3 k3 d3 at3' g3 => ?_⟩
      refine ⟨by show 3 ≤ sizeLine; decide, fun t ht => ?_⟩
      have t3 := tk_keep k3 d2.notup
      have t4 : TK H3 (upd H3 t (.tup [.str "app", va, vb])) := tk_new ht
      exact q _ (.pl "app" none [a, b2]) _ (k1.trans (k2.trans (k3.trans (Keep.same (same_new ht _))))) (d3.same (same_new ht _)) ⟨t, [va, vb], rfl, upd_same, ⟨va, [vb], rfl, at2'.keep (t3.trans t4), vb, [], rfl, at3'.keep t4, rfl⟩, .inr (.inl ⟨.inl rfl, rfl, by show 2 ≤ 3; decide⟩)⟩ (gx_pl2 g2 g3)
    refine ⟨_, rfl, _, _, rfl, rfl, _, rfl, ?_⟩
    refine ite2 (fun _ => ?_) (fun _ => ?_)
    · refine ⟨_, rfl, p, r, rfl, d1, fun tn ns H2 ok hns k2 d2 => ?_⟩
      refine ⟨_, rfl, _, rfl, _, _, rfl, rfl, p, r, e, ed _, by omega, d2, fun va a H3 k3 d3 at3' g3 => ?_⟩
      refine ⟨by show 3 ≤ sizeLine; decide, fun t ht => ?_⟩
      have t3 := tk_keep k3 d2.notup
      have t4 : TK H3 (upd H3 t (.tup [.str "lam", .ref tn, va])) := tk_new ht
      exact q _ (.lam ns a) _ (k1.trans (k2.trans (k3.trans (Keep.same (same_new ht _))))) (d3.same (same_new ht _)) ⟨t, tn, va, rfl, upd_same, t4 _ _ (t3 _ _ hns), ok, at3'.keep t4⟩ (gx_lam g3)
    refine ⟨_, rfl, rfl, _, rfl, ?_⟩
    refine ite2 (fun _ => ?_) (fun _ => ?_)
    · exact ⟨_, rfl, _, rfl, p, r, e, rfl, by omega, d1, fun v m H2 k2 d2 at2' g2 => q v m H2 (k1.trans k2) d2 at2' g2⟩
    refine ⟨_, rfl, rfl, _, rfl, ?_⟩
    refine ite2 (fun _ => ?_) (fun _ => ?_)
    · exact ⟨_, rfl, _, rfl, p, r, e, rfl, by omega, d1, fun v m H2 k2 d2 at2' g2 => q v m H2 (k1.trans k2) d2 at2' g2⟩
    refine ⟨_, rfl, rfl, _, rfl, ?_⟩
    refine ite2 (fun _ => ?_) (fun _ => ?_)
    · refine ⟨_, rfl, _, rfl, _, _, rfl, rfl, p, r, e, ed _, by omega, d1, fun va a H2 k2 d2 at2' g2 => ?_⟩
      refine ⟨_, rfl, _, rfl, _, _, rfl, rfl, p, r, e, ed _, by omega, d2, fun vb b2 H3 k3 d3 at3' g3 => ?_⟩
      refine ⟨_, rfl, _, rfl, _, _, rfl, rfl, p, r, e, ed _, by omega, d3, fun vc c H4 k4 d4 at4' g4 => ?_⟩
      refine ⟨by show 4 ≤ sizeLine; decide, fun t ht => ?_⟩
      have t3 := tk_keep k3 d2.notup
      have t4 := tk_keep k4 d3.notup
      have t5 : TK H4 (upd H4 t (.tup [.str "if", va, vb, vc])) := tk_new ht
      exact q _ (.pl "if" none [a, b2, c]) _ (k1.trans (k2.trans (k3.trans (k4.trans (Keep.same (same_new ht _)))))) (d4.same (same_new ht _)) ⟨t, [va, vb, vc], rfl, upd_same, ⟨va, [vb, vc], rfl, at2'.keep (t3.trans (t4.trans t5)), vb, [vc], rfl, at3'.keep (t4.trans t5), vc, [], rfl, at4'.keep t5, rfl⟩, .inr (.inl ⟨.inr rfl, rfl, by show 3 ≤ 3; decide⟩)⟩ (gx_pl3 g2 g3 g4)
    refine ⟨_, rfl, rfl, _, rfl, ?_⟩
    refine ite2 (fun _ => ?_) (fun _ => ?_)
    · refine ⟨by show 3 ≤ sizeLine; decide, fun lz hlz => ?_⟩
      have s1 := same_new hlz (.lst ((["+", ":", "<="] : List Str).map V.str))
      have e1 : upd H1 lz (.lst ((["+", ":", "<="] : List Str).map V.str)) lz = some (.lst ((["+", ":", "<="] : List Str).map V.str)) := upd_same
      generalize upd H1 lz (.lst ((["+", ":", "<="] : List Str).map V.str)) = G1 at s1 e1 ⊢
      have d2 := d1.same s1
      have nl : lz ≠ p := (d1.fresh hlz).1
      refine ⟨_, rfl, p, r, 3, rfl, by decide, d2, fun m H2 m0 m1 k2 d3 => ?_⟩
      obtain ⟨z, hz, ez⟩ := at_str (zs := ["+", ":", "<="]) m0 m1
      refine ⟨lz, _, m, _, rfl, rfl, SqL.of (k2 _ _ nl e1), ez, ?_⟩
      refine ⟨_, rfl, _, rfl, _, _, rfl, rfl, p, r, e, ed _, by omega, d3, fun va a H3 k3 d4 at3' g3 => ?_⟩
      refine ⟨_, rfl, _, rfl, _, _, rfl, rfl, p, r, e, ed _, by omega, d4, fun vb b2 H4 k4 d5 at4' g4 => ?_⟩
      refine ⟨by show 4 ≤ sizeLine; decide, fun t ht => ?_⟩
      have t4 := tk_keep k4 d4.notup
      have t5 : TK H4 (upd H4 t (.tup [.str "op", .str z, va, vb])) := tk_new ht
      exact q _ (.pl "op" (some (.str z)) [a, b2]) _ (k1.trans ((Keep.same s1).trans (k2.trans (k3.trans (k4.trans (Keep.same (same_new ht _))))))) (d5.same (same_new ht _)) ⟨t, [va, vb], rfl, upd_same, ⟨va, [vb], rfl, at3'.keep (t4.trans t5), vb, [], rfl, at4'.keep t5, rfl⟩, .inr (.inr ⟨.inl rfl, ⟨_, rfl⟩, by show 2 ≤ 2; decide⟩)⟩ (gx_pl2 g3 g4)
    refine ⟨_, rfl, p, r, 2, rfl, by decide, d1, fun m1 H2 _ _ k2 d2 => ⟨rfl, _, rfl, ?_⟩⟩
    refine ite2 (fun _ => ?_) (fun _ => ?_)
    · refine ⟨_, rfl, p, r, 9, rfl, by decide, d2, fun m H3 m0 m9 k3 d3 => ?_⟩
      refine ⟨_, rfl, _, rfl, _, _, rfl, rfl, p, r, e, ed _, by omega, d3, fun va a H4 k4 d4 at4' g4 => ?_⟩
      refine ⟨by show 3 ≤ sizeLine; decide, fun t ht => ?_⟩
      have t5 : TK H4 (upd H4 t (.tup [.str "note", .int m, va])) := tk_new ht
      exact q _ (.pl "note" (some (.int m)) [a]) _ (k1.trans (k2.trans (k3.trans (k4.trans (Keep.same (same_new ht _)))))) (d4.same (same_new ht _)) ⟨t, [va], rfl, upd_same, ⟨va, [], rfl, at4'.keep t5, rfl⟩, .inr (.inr ⟨.inr rfl, ⟨_, rfl⟩, by show 1 ≤ 2; decide⟩)⟩ (gx_pl1 g4)
    · refine ⟨_, rfl, p, r, 4, rfl, by decide, d2, fun cnt H5 c0 c4 k5 d5 => ⟨cnt, rfl, by omega, by omega, fun D hD => ?_⟩⟩
      obtain ⟨ndp, ndr⟩ := d5.fresh hD
      refine lc_range (Pv := fun i G => ∃ (l : List Ex) (xs : List V), G D = some (.lst xs) ∧ Keep p H5 G ∧ DrawsAt G p r ∧ Ex.Ats G l xs ∧ l.length = i ∧ Gxs e i l) ⟨[], [], upd_same, Keep.same (same_new hD _), d5.same (same_new hD _), rfl, rfl, gxs_nil e⟩ ?_ ?_
      · rintro i G hi ⟨l, xs, h1, h2, h3, h4, h5, h6⟩
        refine ⟨rfl, ?_⟩
        refine tYes_if ?_
        refine ⟨_, rfl, _, rfl, _, _, rfl, rfl, p, r, e, ed _, by omega, h3, fun v a G2 kp dG at2' g2 => ?_⟩
        have hxl := h4.len
        have h1' := kp _ _ ndp h1
        refine ⟨xs, h1', szl (by omega), l ++ [a], xs ++ [v], upd_same, keep_upd hD (h2.trans kp) _, dG.off ndp ndr _, ?_, by rw [List.length_append, h5]; rfl, gxs_snoc h6 g2⟩
        have t1 : TK G G2 := tk_keep kp h3.notup
        have t2 : TK G2 (upd G2 D (.lst (xs ++ [v]))) := tk_list h1'
        exact Ex.Ats.app (h4.keep (t1.trans t2)) ⟨v, [], rfl, at2'.keep t2, rfl⟩
      · rintro G ⟨l, xs, h1, h2, h3, h4, h5, h6⟩
        refine ⟨D, xs, rfl, .inl ⟨SqL.of h1, fun u hu => ?_⟩⟩
        refine ⟨by show 2 ≤ sizeLine; decide, fun t ht => ?_⟩
        have t3 : TK G (upd G u (.tup xs)) := tk_new hu
        have t4 : TK (upd G u (.tup xs)) (upd (upd G u (.tup xs)) t (.tup [.str "list", .ref u])) := tk_new ht
        exact q _ (.ls l) _ (k1.trans (k2.trans (k5.trans (h2.trans ((Keep.same (same_new hu _)).trans (Keep.same (same_new ht _))))))) ((h3.same (same_new hu _)).same (same_new ht _)) ⟨t, u, xs, rfl, upd_same, t4 _ _ upd_same, h4.keep (t3.trans t4)⟩ (gx_ls (gxs_mono h6 (by omega)))
end
end Toy

set_option Elab.async false
set_option linter.all false
set_option maxRecDepth 100000
set_option maxHeartbeats 4000000
/-! Part I: the law's own free names. -/
namespace Toy
open PySem L2
open PyProof.Rows (envOfC)
theorem sizes_take (l : List Ex) (i : Nat) : Ex.sizes (l.take i) ≤ Ex.sizes l := by
  have z := Ex.sizes_app (l.take i) (l.drop i)
  rw [List.take_append_drop] at z
  omega
theorem inV_strs (s : Str) : ∀ xs : List Str, inV (.str s) (xs.map V.str) = true ↔ s ∈ xs := by
  intro xs
  unfold inV
  rw [List.any_eq_true]
  constructor
  · rintro ⟨y, hy, e⟩
    obtain ⟨x, hx, e2⟩ := List.mem_map.mp hy
    rw [← e2] at e
    have e : (s == x) = true ∨ (x == s) = true := by first | exact .inl e | exact .inr e
    rcases e with e | e
    · rw [eq_of_beq e]; exact hx
    · rw [← eq_of_beq e]; exact hx
  · intro h
    exact ⟨.str s, List.mem_map.mpr ⟨s, h, rfl⟩, by show (s == s) = true; exact beq_self_eq_true s⟩
theorem flat_strs : ∀ xs : List Str, (xs.map V.str).all flatV = true
  | [] => rfl
  | x :: xs => by rw [List.map_cons, List.all_cons, flat_strs xs]; rfl
section
variable {P : Program} {w : World} {K : PySem.W.Frag} {mg : Str → Option Value} {base : Heap}
abbrev sLFree : Stmt := topS 17
theorem scLFree : FnScope ["expression", "hidden", "kind", "found", "row", "inner", "pattern", "body", "names", "parts", "part", "name"] ["expression", "hidden"] (defScope sLFree) := ⟨rfl, rfl, rfl, by decide +kernel, rfl, by decide +kernel, by decide +kernel⟩
def spLFree (n : Nat) : Sp := fun vs H Q _ => ∃ (v : V) (h : Addr) (e : Ex) (hs : List Str), vs = [v, .ref h] ∧ e.At H v ∧ e.dep < n ∧ e.size ≤ 50000 ∧ H h = some (.lst (hs.map V.str)) ∧ hs.length + 20 * e.dep ≤ 1000 ∧ ∀ (u : Addr) (ys : List Str) (H' : Hp), Same H H' → H' u = some (.lst (ys.map V.str)) → ys.length ≤ e.size → (∀ s, s ∈ ys ↔ e.occ s ∧ s ∉ hs) → Q (.ref u) H'
theorem c_lfree {f : Addr} {fd : FuncData} (T : TxtP mg) (F : Fun K "_law_free" "_law_free" sLFree f fd) (b : Binds K fd ["expression", "hidden"] []) (hm : mg "_law_free" = some (.ref f)) : ∀ n : Nat, C8.Cal P w K mg base (n + 1) "_law_free" (spLFree n) []
  | 0 => cal_none F hm b fun vs H Q E ⟨v, h0, e, hs, _, _, h, _⟩ => Nat.not_lt_zero _ h
  | n + 1 => by
    have c_law_free := c_lfree T F b hm n
    refine cal_of F hm b scLFree (fun vs H Q E h => ?_) (fun cdv A outer s H vs Q E hr h => ?_)
    · obtain ⟨v, h0, e, hs, rfl, _⟩ := h
      rfl
    obtain ⟨v, hd, e, hs, rfl, he, hdn, hsz, hhd, hlen, q⟩ := h
    refine ⟨_, (pss_cons (ps_set (i := 2) scLFree.nd rfl (Or.inl rfl) (pe_ix ix_tup (pv 0) pe_int (fun _ _ => rfl)))
    (pss_cons (ps_if (pt_cmpR op_eq (pv 2) pe_str (nomark _))
      (pss_one (ps_ret (pe_lc (own := [("name", 11)]) (g := gName 11) (tt := (tTest (tOp (rIn K true) (tVar 11) (tVar 1)))) rfl scLFree.nd (pi_list (pe_lst (pa_cons (pe_ix ix_tup (pv 0) pe_int (fun _ _ => rfl)) pa_nil))) (blkOk_by (own := [("name", 11)]) (N := ["expression", "hidden", "kind", "found", "row", "inner", "pattern", "body", "names", "parts", "part", "name"]) (sc := defScope sLFree) (by decide +kernel)) (fun _ _ _ _ _ => (pg_name (i := 11) scLFree.nd rfl (Or.inl rfl))) (fun _ _ _ _ _ => pts_one (pt_cmpR op_notIn_seq (pv 11) (pv 1) rfl)) (fun _ _ _ _ _ => (pv 11)))))
      pss_nil)
    (pss_cons (ps_if (PW.pt (pw_or (pt_cmpR op_eq (pv 2) pe_str (nomark _)) (pw_or1 (pt_cmpR op_eq (pv 2) pe_str (nomark _)))))
      (pss_one (ps_ret (pe_lst pa_nil)))
      pss_nil)
    (pss_cons (ps_if (pt_cmpR op_eq (pv 2) pe_str (nomark _))
      (pss_one (ps_ret (C8.pe_c c_law_free hr (by omega) rfl (pa_cons (pe_ix ix_tup (pv 0) pe_int (fun _ _ => rfl)) (pa_cons (pe_op op_cat (pv 1) (pe_callTy call_list_of rfl T.zlist boot_list (pa_cons (pe_ix ix_tup (pv 0) pe_int (fun _ _ => rfl)) pa_nil))) pa_nil)))))
      pss_nil)
    (pss_cons (ps_set (i := 3) scLFree.nd rfl (Or.inl rfl) (pe_lst pa_nil))
    (pss_cons (ps_if (pt_cmpR op_eq (pv 2) pe_str (nomark _))
      (pss_cons (ps_set (i := 5) scLFree.nd rfl (Or.inl rfl) (pe_op op_cat (pv 1) (pe_lc (own := [("row", 4)]) (g := gName 4) (tt := (tTest (tOp rEq (tOp (rIxT K) (tVar 4) (tC (.int 0))) (tC (.str "define"))))) (te := (tOp (rIxT K) (tVar 4) (tC (.int 1)))) rfl scLFree.nd (pi_tup (pe_ix ix_tup (pv 0) pe_int (fun _ _ => rfl))) (blkOk_by (own := [("row", 4)]) (N := ["expression", "hidden", "kind", "found", "row", "inner", "pattern", "body", "names", "parts", "part", "name"]) (sc := defScope sLFree) (by decide +kernel)) (fun _ _ _ _ _ => (pg_name (i := 4) scLFree.nd rfl (Or.inl rfl))) (fun _ _ _ _ _ => pts_one (pt_cmpR op_eq (pe_ix ix_tup (pv 4) pe_int (fun _ _ => rfl)) pe_str (nomark _))) (fun _ _ _ _ _ => (pe_ix ix_tup (pv 4) pe_int (fun _ _ => rfl))))))
    (pss_cons (ps_for PassesOwn.never rfl (pi_tup (pe_ix ix_tup (pv 0) pe_int (fun _ _ => rfl))) (pg_name (i := 4) scLFree.nd rfl (Or.inl rfl))
      (pss_one (ps_if (pt_cmpR op_eq (pe_ix ix_tup (pv 4) pe_int (fun _ _ => rfl)) pe_str (nomark _))
      (pss_one (ps_set (i := 3) scLFree.nd rfl (Or.inl rfl) (pe_op op_cat (pv 3) (C8.pe_c c_law_free hr (by omega) rfl (pa_cons (pe_ix ix_tup (pv 4) pe_int (fun _ _ => rfl)) (pa_cons (pe_op op_cat (pv 5) (pe_callTy call_list_of rfl T.zlist boot_list (pa_cons (pe_ix ix_tup (pv 4) pe_int (fun _ _ => rfl)) pa_nil))) pa_nil))))))
      pss_nil)))
    (pss_one (ps_ret (pe_op op_cat (pv 3) (C8.pe_c c_law_free hr (by omega) rfl (pa_cons (pe_ix ix_tup (pv 0) pe_int (fun _ _ => rfl)) (pa_cons (pv 5) pa_nil))))))))
      pss_nil)
    (pss_cons (ps_if (pt_cmpR op_eq (pv 2) pe_str (nomark _))
      (pss_cons (ps_set (i := 3) scLFree.nd rfl (Or.inl rfl) (C8.pe_c c_law_free hr (by omega) rfl (pa_cons (pe_ix ix_tup (pv 0) pe_int (fun _ _ => rfl)) (pa_cons (pv 1) pa_nil))))
    (pss_cons (ps_for PassesOwn.never rfl (pi_tup (pe_ix ix_tup (pv 0) pe_int (fun _ _ => rfl))) (pg_tup rfl (pgs_cons (pg_name (i := 6) scLFree.nd rfl (Or.inl rfl)) (pgs_cons (pg_name (i := 7) scLFree.nd rfl (Or.inl rfl)) pgs_nil)))
      (pss_cons (ps_set (i := 8) scLFree.nd rfl (Or.inl rfl) (pe_lst pa_nil))
    (C8.pss_cut (ps_if (pt_cmpR op_eq (pe_ix ix_tup (pv 6) pe_int (fun _ _ => rfl)) pe_str (nomark _))
      (pss_one (ps_set (i := 8) scLFree.nd rfl (Or.inl rfl) (pe_callTy call_list_of rfl T.zlist boot_list (pa_cons (pe_ix ix_tup (pv 6) pe_int (fun _ _ => rfl)) pa_nil))))
      pss_nil)
    (C8.pss_cut (ps_if (pt_cmpR op_eq (pe_ix ix_tup (pv 6) pe_int (fun _ _ => rfl)) pe_str (nomark _))
      (pss_one (ps_set (i := 8) scLFree.nd rfl (Or.inl rfl) (pe_lst (pa_cons (pe_ix ix_tup (pv 6) pe_int (fun _ _ => rfl)) pa_nil))))
      pss_nil)
    (pss_one (ps_set (i := 3) scLFree.nd rfl (Or.inl rfl) (pe_op op_cat (pv 3) (C8.pe_c c_law_free hr (by omega) rfl (pa_cons (pv 7) (pa_cons (pe_op op_cat (pv 1) (pv 8)) pa_nil))))))))))
    (pss_one (ps_ret (pv 3)))))
      pss_nil)
    (pss_cons (ps_set (i := 9) scLFree.nd rfl (Or.inl rfl) (pe_slice sl_tupA (pv 0) (po_some pe_int) po_none))
    (pss_cons (ps_if (pt_cmpR op_eq (pv 2) pe_str (nomark _))
      (pss_one (ps_set (i := 9) scLFree.nd rfl (Or.inl rfl) (pe_ix ix_tup (pv 0) pe_int (fun _ _ => rfl))))
      pss_nil)
    (pss_cons (ps_if (PW.pt (pw_or (pt_cmpR op_eq (pv 2) pe_str (nomark _)) (pw_or1 (pt_cmpR op_eq (pv 2) pe_str (nomark _)))))
      (pss_one (ps_set (i := 9) scLFree.nd rfl (Or.inl rfl) (pe_slice sl_tupA (pv 0) (po_some pe_int) po_none)))
      pss_nil)
    (pss_cons (ps_for PassesOwn.never rfl (pi_tup (pv 9)) (pg_name (i := 10) scLFree.nd rfl (Or.inl rfl))
      (pss_one (ps_set (i := 3) scLFree.nd rfl (Or.inl rfl) (pe_op op_cat (pv 3) (C8.pe_c c_law_free hr (by omega) rfl (pa_cons (pv 10) (pa_cons (pv 1) pa_nil)))))))
    (pss_one (ps_ret (pv 3)))))))))))))), ?_⟩
    have hs1 : hs.length ≤ 1000 := by omega
    cases e with
    | var s =>
      obtain ⟨a, rfl, ha, habc⟩ := he
      refine ⟨_, rfl, a, _, 0, .str "var", rfl, rfl, SqT.of ha, at0 _ _, ?_⟩
      refine ⟨_, rfl, rfl, _, rfl, ?_⟩
      show if decide (V.str "var" = V.str "var") = true then _ else _
      rw [wtt]
      refine iteT ?_
      refine ⟨_, rfl, a, _, 1, .str s, rfl, rfl, SqT.of ha, at1 _ _ _, by show 1 ≤ sizeLine; decide, fun l0 hl0 => ?_⟩
      have s1 := same_new hl0 (.lst [.str s])
      have e1 : upd H l0 (.lst [.str s]) l0 = some (.lst [.str s]) := upd_same
      generalize upd H l0 (.lst [.str s]) = H1 at s1 e1 ⊢
      refine ⟨l0, rfl, ⟨_, SqL.of e1⟩, fun D hD => ?_⟩
      refine lc_list (K := K) (a := l0) (xs := [.str s]) (fun i G => Same H1 G ∧ ∃ ys : List Str, G D = some (.lst (ys.map V.str)) ∧ ys.length ≤ i ∧ ∀ t, t ∈ ys ↔ (i = 1 ∧ t = s) ∧ t ∉ hs) ⟨same_new hD _, [], upd_same, Nat.le_refl _, fun t => ⟨fun h => absurd h List.not_mem_nil, fun h => by omega⟩⟩ (fun i G hi ⟨h1, _⟩ => SqL.of (h1 _ _ e1)) ?_ ?_
      · rintro i x G hx ⟨h1, ys, h2, h3, h4⟩
        obtain ⟨rfl, rfl⟩ : i = 0 ∧ x = .str s := by
          match i, hx with
          | 0, hx => cases hx; exact ⟨rfl, rfl⟩
          | i + 1, hx => simp at hx
        have ey : ys = [] := List.length_eq_zero_iff.mp (Nat.le_zero.mp h3)
        subst ey
        refine ⟨rfl, ?_⟩
        refine ⟨_, rfl, _, rfl, hd, _, rfl, .inl (SqL.of (h1 _ _ (s1 _ _ hhd))), rfl, flat_strs hs, _, rfl, ?_⟩
        by_cases hin : s ∈ hs
        · have z : inV (.str s) (hs.map V.str) = true := (inV_strs s hs).mpr hin
          show if (!inV (.str s) (hs.map V.str)) = true then _ else _
          rw [z]
          refine iteF ⟨h1, [], h2, Nat.zero_le _, fun t => ⟨fun h => absurd h List.not_mem_nil, fun ⟨⟨_, h5⟩, h6⟩ => by rw [h5] at h6; exact (h6 hin).elim⟩⟩
        · have z : inV (.str s) (hs.map V.str) = false := by
            cases h : inV (.str s) (hs.map V.str) with
            | false => rfl
            | true => exact (hin ((inV_strs s hs).mp h)).elim
          show if (!inV (.str s) (hs.map V.str)) = true then _ else _
          rw [z]
          refine iteT ⟨_, rfl, [], h2, by show 0 < sizeLine; decide, same_upd hD h1 _, [s], upd_same, by show 1 ≤ 1; decide, fun t => ?_⟩
          rw [List.mem_singleton]
          exact ⟨fun h => ⟨⟨rfl, h⟩, by rw [h]; exact hin⟩, fun h => h.1.2⟩
      · rintro G ⟨h1, ys, h2, h3, h4⟩
        exact q D ys G (sameT s1 h1) h2 h3 fun t => by rw [h4 t]; exact ⟨fun h => ⟨h.1.2, h.2⟩, fun h => ⟨⟨rfl, h.1⟩, h.2⟩⟩
    | pl w o l =>
      obtain ⟨a, xs, rfl, ha, hats0, hok⟩ := he
      have hdp : (Ex.pl w o l).dep = 1 + Ex.deps l := rfl
      have hsp : (Ex.pl w o l).size = 1 + Ex.sizes l := rfl
      have first : ∀ {n : Nat}, HT.sIx ((.str w :: (o.toList ++ xs) : List V)).length 0 (some (((n + 1 : Nat) : Int))) ≠ 0 := fun {n} z => by
        rw [HT.sIx_nat, List.length_cons] at z
        omega
      rcases hok with ⟨hw, ⟨sc, rfl⟩, hl0⟩ | ⟨hw, rfl, hl0⟩ | ⟨hw, ⟨sc, rfl⟩, hl0⟩
      · have el : l = [] := List.length_eq_zero_iff.mp hl0
        subst el
        rcases hw with rfl | rfl
        · skip
          refine ⟨_, rfl, a, _, 0, .str "num", rfl, rfl, SqT.of ha, at0 _ _, ?_⟩
          refine ⟨_, rfl, rfl, _, rfl, ?_⟩
          show if decide (V.str "num" = V.str "var") = true then _ else _
          rw [wz _ _ (by decide +kernel)]
          refine iteF ?_
          refine ⟨_, rfl, rfl, _, rfl, ?_⟩
          show if decide (V.str "num" = V.str "num") = true then _ else _
          rw [wtt]
          refine iteT (iteT ?_)
          exact ⟨by show 0 ≤ sizeLine; decide, fun u hu => q u [] _ (same_new hu _) upd_same (Nat.zero_le _) fun t => ⟨fun h => absurd h List.not_mem_nil, fun h => by cases h.1⟩⟩
        · skip
          refine ⟨_, rfl, a, _, 0, .str "con", rfl, rfl, SqT.of ha, at0 _ _, ?_⟩
          refine ⟨_, rfl, rfl, _, rfl, ?_⟩
          show if decide (V.str "con" = V.str "var") = true then _ else _
          rw [wz _ _ (by decide +kernel)]
          refine iteF ?_
          refine ⟨_, rfl, rfl, _, rfl, ?_⟩
          show if decide (V.str "con" = V.str "num") = true then _ else _
          rw [wz _ _ (by decide +kernel)]
          refine iteF ?_
          refine ⟨_, rfl, rfl, _, rfl, ?_⟩
          show if decide (V.str "con" = V.str "con") = true then _ else _
          rw [wtt]
          refine iteT ?_
          exact ⟨by show 0 ≤ sizeLine; decide, fun u hu => q u [] _ (same_new hu _) upd_same (Nat.zero_le _) fun t => ⟨fun h => absurd h List.not_mem_nil, fun h => by cases h.1⟩⟩
      · rcases hw with rfl | rfl
        · skip
          refine ⟨_, rfl, a, _, 0, .str "app", rfl, rfl, SqT.of ha, at0 _ _, ?_⟩
          refine ⟨_, rfl, rfl, _, rfl, ?_⟩
          show if decide (V.str "app" = V.str "var") = true then _ else _
          rw [wz _ _ (by decide +kernel)]
          refine iteF ?_
          refine ⟨_, rfl, rfl, _, rfl, ?_⟩
          show if decide (V.str "app" = V.str "num") = true then _ else _
          rw [wz _ _ (by decide +kernel)]
          refine iteF ?_
          refine ⟨_, rfl, rfl, _, rfl, ?_⟩
          show if decide (V.str "app" = V.str "con") = true then _ else _
          rw [wz _ _ (by decide +kernel)]
          refine iteF ?_
          refine ⟨_, rfl, rfl, _, rfl, ?_⟩
          show if decide (V.str "app" = V.str "lam") = true then _ else _
          rw [wz _ _ (by decide +kernel)]
          refine iteF ?_
          refine ⟨by show 0 ≤ sizeLine; decide, fun f0 hf0 => ?_⟩
          have s1 := same_new hf0 (.lst [])
          have e1 : upd H f0 (.lst []) f0 = some (.lst (([] : List Str).map V.str)) := upd_same
          generalize upd H f0 (.lst []) = H1 at s1 e1 ⊢
          refine ⟨_, rfl, rfl, _, rfl, ?_⟩
          show if decide (V.str "app" = V.str "let") = true then _ else _
          rw [wz _ _ (by decide +kernel)]
          refine iteF ?_
          refine ⟨_, rfl, rfl, _, rfl, ?_⟩
          show if decide (V.str "app" = V.str "case") = true then _ else _
          rw [wz _ _ (by decide +kernel)]
          refine iteF ?_
          refine ⟨_, rfl, 1, rfl, a, _, rfl, SqT.of (s1 _ _ ha), fun z => (first (n := 0) z.1).elim, fun _ pa hp1 => ?_⟩
          have cut : cutV (.str "app" :: ((none : Option V).toList ++ xs)) (some 1) none = xs := by
            rw [show (1 : Int) = ((1 : Nat) : Int) from rfl, cutN (by rw [List.length_cons]; omega)]
            rfl
          rw [cut]
          have s2 := same_new hp1 (.tup xs)
          have hpa : upd H1 pa (.tup xs) pa = some (.tup xs) := upd_same
          generalize upd H1 pa (.tup xs) = G0 at s2 hpa ⊢
          have sG := sameT s1 s2
          have hats := hats0.keep (tk_same sG)
          have ef := s2 _ _ e1
          refine ⟨_, rfl, rfl, _, rfl, ?_⟩
          show if decide (V.str "app" = V.str "list") = true then _ else _
          rw [wz _ _ (by decide +kernel)]
          refine iteF ?_
          refine ⟨_, rfl, rfl, _, rfl, ?_⟩
          show if decide (V.str "app" = V.str "op") = true then _ else _
          rw [wz _ _ (by decide +kernel)]
          refine iteF ?_
          refine ⟨_, rfl, rfl, _, rfl, ?_⟩
          show if decide (V.str "app" = V.str "note") = true then _ else _
          rw [wz _ _ (by decide +kernel)]
          refine iteF ?_
          refine ⟨_, rfl, ?_⟩
          refine ⟨pa, rfl, ⟨_, SqT.of hpa⟩, for_tup (K := K) (a := pa) (xs := xs)
            (fun (i : Nat) σ G2 => ∃ (fa : Addr) (ys : List Str) (v10 : Option V), σ = [some (.ref a), some (.ref hd), some (.str "app"), some (.ref fa), none, none, none, none, none, some (.ref pa), v10, none] ∧ Same G0 G2 ∧ G2 fa = some (.lst (ys.map V.str)) ∧ ys.length ≤ Ex.sizes (l.take i) ∧ ∀ t, t ∈ ys ↔ freeIn t ((l.take i).map (·, hs)))
            ⟨f0, [], none, rfl, fun _ _ e => e, ef, Nat.zero_le _, fun t => ⟨fun h => absurd h List.not_mem_nil, fun ⟨_, h, _⟩ => absurd h List.not_mem_nil⟩⟩ (fun i σ G2 _ ⟨fa, ys, v10, _, s2, _⟩ => SqT.of (s2 _ _ hpa)) ?_ ?_⟩
          · rintro i x σ G2 hx ⟨fa, ys, v10, rfl, s2, h1, h2, h3⟩
            obtain ⟨k, hk, hat⟩ := hats.get i hx
            have kmem : k ∈ l := List.mem_of_getElem? hk
            have z1 := size_mem kmem
            have z2 := deps_mem kmem
            have z3 := sizes_take l i
            have sz : Ex.sizes (l.take (i + 1)) = Ex.sizes (l.take i) + k.size := by
              rw [List.take_add_one, hk, Ex.sizes_app]
              show _ + (k.size + 0) = _
              omega
            refine ⟨_, rfl, _, rfl, _, rfl, x, hd, k, hs, rfl, hat.keep (tk_same s2), by omega, by omega, s2 _ _ (sG _ _ hhd), by omega, fun u2 zs H3 s3 hz hzl hmem => ?_⟩
            refine ⟨fa, u2, _, _, rfl, rfl, s3 _ _ h1, hz, by rw [List.length_map, List.length_map]; exact Nat.le_of_lt (szl (by omega)), fun l2 hl2 => ?_⟩
            rw [← List.map_append]
            refine ⟨l2, ys ++ zs, _, rfl, sameT s2 (sameT s3 (same_new hl2 _)), upd_same, by rw [List.length_append]; omega, fun t => ?_⟩
            rw [List.mem_append, h3 t, hmem t, List.take_add_one, hk, List.map_append, free_app]
            show _ ∨ _ ↔ _ ∨ freeIn t [(k, hs)]
            rw [free_one]
          · rintro σ G2 ⟨fa, ys, v10, rfl, s2, h1, h2, h3⟩
            rw [hats.len, List.take_length] at h2 h3
            exact ⟨_, rfl, q fa ys G2 (sameT sG s2) h1 (by omega) fun t => by rw [h3 t]; exact free_plain⟩
        · skip
          refine ⟨_, rfl, a, _, 0, .str "if", rfl, rfl, SqT.of ha, at0 _ _, ?_⟩
          refine ⟨_, rfl, rfl, _, rfl, ?_⟩
          show if decide (V.str "if" = V.str "var") = true then _ else _
          rw [wz _ _ (by decide +kernel)]
          refine iteF ?_
          refine ⟨_, rfl, rfl, _, rfl, ?_⟩
          show if decide (V.str "if" = V.str "num") = true then _ else _
          rw [wz _ _ (by decide +kernel)]
          refine iteF ?_
          refine ⟨_, rfl, rfl, _, rfl, ?_⟩
          show if decide (V.str "if" = V.str "con") = true then _ else _
          rw [wz _ _ (by decide +kernel)]
          refine iteF ?_
          refine ⟨_, rfl, rfl, _, rfl, ?_⟩
          show if decide (V.str "if" = V.str "lam") = true then _ else _
          rw [wz _ _ (by decide +kernel)]
          refine iteF ?_
          refine ⟨by show 0 ≤ sizeLine; decide, fun f0 hf0 => ?_⟩
          have s1 := same_new hf0 (.lst [])
          have e1 : upd H f0 (.lst []) f0 = some (.lst (([] : List Str).map V.str)) := upd_same
          generalize upd H f0 (.lst []) = H1 at s1 e1 ⊢
          refine ⟨_, rfl, rfl, _, rfl, ?_⟩
          show if decide (V.str "if" = V.str "let") = true then _ else _
          rw [wz _ _ (by decide +kernel)]
          refine iteF ?_
          refine ⟨_, rfl, rfl, _, rfl, ?_⟩
          show if decide (V.str "if" = V.str "case") = true then _ else _
          rw [wz _ _ (by decide +kernel)]
          refine iteF ?_
          refine ⟨_, rfl, 1, rfl, a, _, rfl, SqT.of (s1 _ _ ha), fun z => (first (n := 0) z.1).elim, fun _ pa hp1 => ?_⟩
          have cut : cutV (.str "if" :: ((none : Option V).toList ++ xs)) (some 1) none = xs := by
            rw [show (1 : Int) = ((1 : Nat) : Int) from rfl, cutN (by rw [List.length_cons]; omega)]
            rfl
          rw [cut]
          have s2 := same_new hp1 (.tup xs)
          have hpa : upd H1 pa (.tup xs) pa = some (.tup xs) := upd_same
          generalize upd H1 pa (.tup xs) = G0 at s2 hpa ⊢
          have sG := sameT s1 s2
          have hats := hats0.keep (tk_same sG)
          have ef := s2 _ _ e1
          refine ⟨_, rfl, rfl, _, rfl, ?_⟩
          show if decide (V.str "if" = V.str "list") = true then _ else _
          rw [wz _ _ (by decide +kernel)]
          refine iteF ?_
          refine ⟨_, rfl, rfl, _, rfl, ?_⟩
          show if decide (V.str "if" = V.str "op") = true then _ else _
          rw [wz _ _ (by decide +kernel)]
          refine iteF ?_
          refine ⟨_, rfl, rfl, _, rfl, ?_⟩
          show if decide (V.str "if" = V.str "note") = true then _ else _
          rw [wz _ _ (by decide +kernel)]
          refine iteF ?_
          refine ⟨_, rfl, ?_⟩
          refine ⟨pa, rfl, ⟨_, SqT.of hpa⟩, for_tup (K := K) (a := pa) (xs := xs)
            (fun (i : Nat) σ G2 => ∃ (fa : Addr) (ys : List Str) (v10 : Option V), σ = [some (.ref a), some (.ref hd), some (.str "if"), some (.ref fa), none, none, none, none, none, some (.ref pa), v10, none] ∧ Same G0 G2 ∧ G2 fa = some (.lst (ys.map V.str)) ∧ ys.length ≤ Ex.sizes (l.take i) ∧ ∀ t, t ∈ ys ↔ freeIn t ((l.take i).map (·, hs)))
            ⟨f0, [], none, rfl, fun _ _ e => e, ef, Nat.zero_le _, fun t => ⟨fun h => absurd h List.not_mem_nil, fun ⟨_, h, _⟩ => absurd h List.not_mem_nil⟩⟩ (fun i σ G2 _ ⟨fa, ys, v10, _, s2, _⟩ => SqT.of (s2 _ _ hpa)) ?_ ?_⟩
          · rintro i x σ G2 hx ⟨fa, ys, v10, rfl, s2, h1, h2, h3⟩
            obtain ⟨k, hk, hat⟩ := hats.get i hx
            have kmem : k ∈ l := List.mem_of_getElem? hk
            have z1 := size_mem kmem
            have z2 := deps_mem kmem
            have z3 := sizes_take l i
            have sz : Ex.sizes (l.take (i + 1)) = Ex.sizes (l.take i) + k.size := by
              rw [List.take_add_one, hk, Ex.sizes_app]
              show _ + (k.size + 0) = _
              omega
            refine ⟨_, rfl, _, rfl, _, rfl, x, hd, k, hs, rfl, hat.keep (tk_same s2), by omega, by omega, s2 _ _ (sG _ _ hhd), by omega, fun u2 zs H3 s3 hz hzl hmem => ?_⟩
            refine ⟨fa, u2, _, _, rfl, rfl, s3 _ _ h1, hz, by rw [List.length_map, List.length_map]; exact Nat.le_of_lt (szl (by omega)), fun l2 hl2 => ?_⟩
            rw [← List.map_append]
            refine ⟨l2, ys ++ zs, _, rfl, sameT s2 (sameT s3 (same_new hl2 _)), upd_same, by rw [List.length_append]; omega, fun t => ?_⟩
            rw [List.mem_append, h3 t, hmem t, List.take_add_one, hk, List.map_append, free_app]
            show _ ∨ _ ↔ _ ∨ freeIn t [(k, hs)]
            rw [free_one]
          · rintro σ G2 ⟨fa, ys, v10, rfl, s2, h1, h2, h3⟩
            rw [hats.len, List.take_length] at h2 h3
            exact ⟨_, rfl, q fa ys G2 (sameT sG s2) h1 (by omega) fun t => by rw [h3 t]; exact free_plain⟩
      · rcases hw with rfl | rfl
        · skip
          refine ⟨_, rfl, a, _, 0, .str "op", rfl, rfl, SqT.of ha, at0 _ _, ?_⟩
          refine ⟨_, rfl, rfl, _, rfl, ?_⟩
          show if decide (V.str "op" = V.str "var") = true then _ else _
          rw [wz _ _ (by decide +kernel)]
          refine iteF ?_
          refine ⟨_, rfl, rfl, _, rfl, ?_⟩
          show if decide (V.str "op" = V.str "num") = true then _ else _
          rw [wz _ _ (by decide +kernel)]
          refine iteF ?_
          refine ⟨_, rfl, rfl, _, rfl, ?_⟩
          show if decide (V.str "op" = V.str "con") = true then _ else _
          rw [wz _ _ (by decide +kernel)]
          refine iteF ?_
          refine ⟨_, rfl, rfl, _, rfl, ?_⟩
          show if decide (V.str "op" = V.str "lam") = true then _ else _
          rw [wz _ _ (by decide +kernel)]
          refine iteF ?_
          refine ⟨by show 0 ≤ sizeLine; decide, fun f0 hf0 => ?_⟩
          have s1 := same_new hf0 (.lst [])
          have e1 : upd H f0 (.lst []) f0 = some (.lst (([] : List Str).map V.str)) := upd_same
          generalize upd H f0 (.lst []) = H1 at s1 e1 ⊢
          refine ⟨_, rfl, rfl, _, rfl, ?_⟩
          show if decide (V.str "op" = V.str "let") = true then _ else _
          rw [wz _ _ (by decide +kernel)]
          refine iteF ?_
          refine ⟨_, rfl, rfl, _, rfl, ?_⟩
          show if decide (V.str "op" = V.str "case") = true then _ else _
          rw [wz _ _ (by decide +kernel)]
          refine iteF ?_
          refine ⟨_, rfl, 1, rfl, a, _, rfl, SqT.of (s1 _ _ ha), fun z => (first (n := 0) z.1).elim, fun _ p1 hp1 => ?_⟩
          have s2 := same_new hp1 (.tup (cutV (.str "op" :: ((some sc : Option V).toList ++ xs)) (some 1) none))
          generalize upd H1 p1 (.tup (cutV (.str "op" :: ((some sc : Option V).toList ++ xs)) (some 1) none)) = H2 at s2 ⊢
          refine ⟨_, rfl, rfl, _, rfl, ?_⟩
          show if decide (V.str "op" = V.str "list") = true then _ else _
          rw [wz _ _ (by decide +kernel)]
          refine iteF ?_
          refine ⟨_, rfl, rfl, _, rfl, ?_⟩
          show if decide (V.str "op" = V.str "op") = true then _ else _
          rw [wtt]
          refine iteT (iteT ?_)
          refine ⟨_, rfl, 2, rfl, a, _, rfl, SqT.of (s2 _ _ (s1 _ _ ha)), fun z => (first (n := 1) z.1).elim, fun _ pa hp2 => ?_⟩
          have cut : cutV (.str "op" :: ((some sc : Option V).toList ++ xs)) (some 2) none = xs := by
            rw [show (2 : Int) = ((2 : Nat) : Int) from rfl, cutN (by rw [List.length_cons, List.length_append]; show 2 ≤ (1 + xs.length) + 1; omega)]
            rfl
          rw [cut]
          have s3 := same_new hp2 (.tup xs)
          have hpa : upd H2 pa (.tup xs) pa = some (.tup xs) := upd_same
          generalize upd H2 pa (.tup xs) = G0 at s3 hpa ⊢
          have sG := sameT s1 (sameT s2 s3)
          have hats := hats0.keep (tk_same sG)
          have ef := s3 _ _ (s2 _ _ e1)
          refine ⟨_, rfl, ?_⟩
          refine ⟨pa, rfl, ⟨_, SqT.of hpa⟩, for_tup (K := K) (a := pa) (xs := xs)
            (fun (i : Nat) σ G2 => ∃ (fa : Addr) (ys : List Str) (v10 : Option V), σ = [some (.ref a), some (.ref hd), some (.str "op"), some (.ref fa), none, none, none, none, none, some (.ref pa), v10, none] ∧ Same G0 G2 ∧ G2 fa = some (.lst (ys.map V.str)) ∧ ys.length ≤ Ex.sizes (l.take i) ∧ ∀ t, t ∈ ys ↔ freeIn t ((l.take i).map (·, hs)))
            ⟨f0, [], none, rfl, fun _ _ e => e, ef, Nat.zero_le _, fun t => ⟨fun h => absurd h List.not_mem_nil, fun ⟨_, h, _⟩ => absurd h List.not_mem_nil⟩⟩ (fun i σ G2 _ ⟨fa, ys, v10, _, s2, _⟩ => SqT.of (s2 _ _ hpa)) ?_ ?_⟩
          · rintro i x σ G2 hx ⟨fa, ys, v10, rfl, s2, h1, h2, h3⟩
            obtain ⟨k, hk, hat⟩ := hats.get i hx
            have kmem : k ∈ l := List.mem_of_getElem? hk
            have z1 := size_mem kmem
            have z2 := deps_mem kmem
            have z3 := sizes_take l i
            have sz : Ex.sizes (l.take (i + 1)) = Ex.sizes (l.take i) + k.size := by
              rw [List.take_add_one, hk, Ex.sizes_app]
              show _ + (k.size + 0) = _
              omega
            refine ⟨_, rfl, _, rfl, _, rfl, x, hd, k, hs, rfl, hat.keep (tk_same s2), by omega, by omega, s2 _ _ (sG _ _ hhd), by omega, fun u2 zs H3 s3 hz hzl hmem => ?_⟩
            refine ⟨fa, u2, _, _, rfl, rfl, s3 _ _ h1, hz, by rw [List.length_map, List.length_map]; exact Nat.le_of_lt (szl (by omega)), fun l2 hl2 => ?_⟩
            rw [← List.map_append]
            refine ⟨l2, ys ++ zs, _, rfl, sameT s2 (sameT s3 (same_new hl2 _)), upd_same, by rw [List.length_append]; omega, fun t => ?_⟩
            rw [List.mem_append, h3 t, hmem t, List.take_add_one, hk, List.map_append, free_app]
            show _ ∨ _ ↔ _ ∨ freeIn t [(k, hs)]
            rw [free_one]
          · rintro σ G2 ⟨fa, ys, v10, rfl, s2, h1, h2, h3⟩
            rw [hats.len, List.take_length] at h2 h3
            exact ⟨_, rfl, q fa ys G2 (sameT sG s2) h1 (by omega) fun t => by rw [h3 t]; exact free_plain⟩
        · skip
          refine ⟨_, rfl, a, _, 0, .str "note", rfl, rfl, SqT.of ha, at0 _ _, ?_⟩
          refine ⟨_, rfl, rfl, _, rfl, ?_⟩
          show if decide (V.str "note" = V.str "var") = true then _ else _
          rw [wz _ _ (by decide +kernel)]
          refine iteF ?_
          refine ⟨_, rfl, rfl, _, rfl, ?_⟩
          show if decide (V.str "note" = V.str "num") = true then _ else _
          rw [wz _ _ (by decide +kernel)]
          refine iteF ?_
          refine ⟨_, rfl, rfl, _, rfl, ?_⟩
          show if decide (V.str "note" = V.str "con") = true then _ else _
          rw [wz _ _ (by decide +kernel)]
          refine iteF ?_
          refine ⟨_, rfl, rfl, _, rfl, ?_⟩
          show if decide (V.str "note" = V.str "lam") = true then _ else _
          rw [wz _ _ (by decide +kernel)]
          refine iteF ?_
          refine ⟨by show 0 ≤ sizeLine; decide, fun f0 hf0 => ?_⟩
          have s1 := same_new hf0 (.lst [])
          have e1 : upd H f0 (.lst []) f0 = some (.lst (([] : List Str).map V.str)) := upd_same
          generalize upd H f0 (.lst []) = H1 at s1 e1 ⊢
          refine ⟨_, rfl, rfl, _, rfl, ?_⟩
          show if decide (V.str "note" = V.str "let") = true then _ else _
          rw [wz _ _ (by decide +kernel)]
          refine iteF ?_
          refine ⟨_, rfl, rfl, _, rfl, ?_⟩
          show if decide (V.str "note" = V.str "case") = true then _ else _
          rw [wz _ _ (by decide +kernel)]
          refine iteF ?_
          refine ⟨_, rfl, 1, rfl, a, _, rfl, SqT.of (s1 _ _ ha), fun z => (first (n := 0) z.1).elim, fun _ p1 hp1 => ?_⟩
          have s2 := same_new hp1 (.tup (cutV (.str "note" :: ((some sc : Option V).toList ++ xs)) (some 1) none))
          generalize upd H1 p1 (.tup (cutV (.str "note" :: ((some sc : Option V).toList ++ xs)) (some 1) none)) = H2 at s2 ⊢
          refine ⟨_, rfl, rfl, _, rfl, ?_⟩
          show if decide (V.str "note" = V.str "list") = true then _ else _
          rw [wz _ _ (by decide +kernel)]
          refine iteF ?_
          refine ⟨_, rfl, rfl, _, rfl, ?_⟩
          show if decide (V.str "note" = V.str "op") = true then _ else _
          rw [wz _ _ (by decide +kernel)]
          refine iteF ?_
          refine ⟨_, rfl, rfl, _, rfl, ?_⟩
          show if decide (V.str "note" = V.str "note") = true then _ else _
          rw [wtt]
          refine iteT ?_
          refine ⟨_, rfl, 2, rfl, a, _, rfl, SqT.of (s2 _ _ (s1 _ _ ha)), fun z => (first (n := 1) z.1).elim, fun _ pa hp2 => ?_⟩
          have cut : cutV (.str "note" :: ((some sc : Option V).toList ++ xs)) (some 2) none = xs := by
            rw [show (2 : Int) = ((2 : Nat) : Int) from rfl, cutN (by rw [List.length_cons, List.length_append]; show 2 ≤ (1 + xs.length) + 1; omega)]
            rfl
          rw [cut]
          have s3 := same_new hp2 (.tup xs)
          have hpa : upd H2 pa (.tup xs) pa = some (.tup xs) := upd_same
          generalize upd H2 pa (.tup xs) = G0 at s3 hpa ⊢
          have sG := sameT s1 (sameT s2 s3)
          have hats := hats0.keep (tk_same sG)
          have ef := s3 _ _ (s2 _ _ e1)
          refine ⟨_, rfl, ?_⟩
          refine ⟨pa, rfl, ⟨_, SqT.of hpa⟩, for_tup (K := K) (a := pa) (xs := xs)
            (fun (i : Nat) σ G2 => ∃ (fa : Addr) (ys : List Str) (v10 : Option V), σ = [some (.ref a), some (.ref hd), some (.str "note"), some (.ref fa), none, none, none, none, none, some (.ref pa), v10, none] ∧ Same G0 G2 ∧ G2 fa = some (.lst (ys.map V.str)) ∧ ys.length ≤ Ex.sizes (l.take i) ∧ ∀ t, t ∈ ys ↔ freeIn t ((l.take i).map (·, hs)))
            ⟨f0, [], none, rfl, fun _ _ e => e, ef, Nat.zero_le _, fun t => ⟨fun h => absurd h List.not_mem_nil, fun ⟨_, h, _⟩ => absurd h List.not_mem_nil⟩⟩ (fun i σ G2 _ ⟨fa, ys, v10, _, s2, _⟩ => SqT.of (s2 _ _ hpa)) ?_ ?_⟩
          · rintro i x σ G2 hx ⟨fa, ys, v10, rfl, s2, h1, h2, h3⟩
            obtain ⟨k, hk, hat⟩ := hats.get i hx
            have kmem : k ∈ l := List.mem_of_getElem? hk
            have z1 := size_mem kmem
            have z2 := deps_mem kmem
            have z3 := sizes_take l i
            have sz : Ex.sizes (l.take (i + 1)) = Ex.sizes (l.take i) + k.size := by
              rw [List.take_add_one, hk, Ex.sizes_app]
              show _ + (k.size + 0) = _
              omega
            refine ⟨_, rfl, _, rfl, _, rfl, x, hd, k, hs, rfl, hat.keep (tk_same s2), by omega, by omega, s2 _ _ (sG _ _ hhd), by omega, fun u2 zs H3 s3 hz hzl hmem => ?_⟩
            refine ⟨fa, u2, _, _, rfl, rfl, s3 _ _ h1, hz, by rw [List.length_map, List.length_map]; exact Nat.le_of_lt (szl (by omega)), fun l2 hl2 => ?_⟩
            rw [← List.map_append]
            refine ⟨l2, ys ++ zs, _, rfl, sameT s2 (sameT s3 (same_new hl2 _)), upd_same, by rw [List.length_append]; omega, fun t => ?_⟩
            rw [List.mem_append, h3 t, hmem t, List.take_add_one, hk, List.map_append, free_app]
            show _ ∨ _ ↔ _ ∨ freeIn t [(k, hs)]
            rw [free_one]
          · rintro σ G2 ⟨fa, ys, v10, rfl, s2, h1, h2, h3⟩
            rw [hats.len, List.take_length] at h2 h3
            exact ⟨_, rfl, q fa ys G2 (sameT sG s2) h1 (by omega) fun t => by rw [h3 t]; exact free_plain⟩
    | ls l =>
      obtain ⟨a, pa, xs, rfl, ha, hb, hats0⟩ := he
      have hdp : (Ex.ls l).dep = 1 + Ex.deps l := rfl
      have hsp : (Ex.ls l).size = 1 + Ex.sizes l := rfl
      have first : ∀ {n : Nat}, HT.sIx ([V.str "list", V.ref pa] : List V).length 0 (some (((n + 1 : Nat) : Int))) ≠ 0 := fun {n} z => by
        rw [HT.sIx_nat, List.length_cons] at z
        omega
      refine ⟨_, rfl, a, _, 0, .str "list", rfl, rfl, SqT.of ha, at0 _ _, ?_⟩
      refine ⟨_, rfl, rfl, _, rfl, ?_⟩
      show if decide (V.str "list" = V.str "var") = true then _ else _
      rw [wz _ _ (by decide +kernel)]
      refine iteF ?_
      refine ⟨_, rfl, rfl, _, rfl, ?_⟩
      show if decide (V.str "list" = V.str "num") = true then _ else _
      rw [wz _ _ (by decide +kernel)]
      refine iteF ?_
      refine ⟨_, rfl, rfl, _, rfl, ?_⟩
      show if decide (V.str "list" = V.str "con") = true then _ else _
      rw [wz _ _ (by decide +kernel)]
      refine iteF ?_
      refine ⟨_, rfl, rfl, _, rfl, ?_⟩
      show if decide (V.str "list" = V.str "lam") = true then _ else _
      rw [wz _ _ (by decide +kernel)]
      refine iteF ?_
      refine ⟨by show 0 ≤ sizeLine; decide, fun f0 hf0 => ?_⟩
      have s1 := same_new hf0 (.lst [])
      have e1 : upd H f0 (.lst []) f0 = some (.lst (([] : List Str).map V.str)) := upd_same
      generalize upd H f0 (.lst []) = H1 at s1 e1 ⊢
      refine ⟨_, rfl, rfl, _, rfl, ?_⟩
      show if decide (V.str "list" = V.str "let") = true then _ else _
      rw [wz _ _ (by decide +kernel)]
      refine iteF ?_
      refine ⟨_, rfl, rfl, _, rfl, ?_⟩
      show if decide (V.str "list" = V.str "case") = true then _ else _
      rw [wz _ _ (by decide +kernel)]
      refine iteF ?_
      refine ⟨_, rfl, 1, rfl, a, _, rfl, SqT.of (s1 _ _ ha), fun z => (first (n := 0) z.1).elim, fun _ p1 hp1 => ?_⟩
      have s2 := same_new hp1 (.tup (cutV [V.str "list", V.ref pa] (some 1) none))
      generalize upd H1 p1 (.tup (cutV [V.str "list", V.ref pa] (some 1) none)) = G0 at s2 ⊢
      have sG := sameT s1 s2
      refine ⟨_, rfl, rfl, _, rfl, ?_⟩
      show if decide (V.str "list" = V.str "list") = true then _ else _
      rw [wtt]
      refine iteT ?_
      refine ⟨_, rfl, a, _, 1, .ref pa, rfl, rfl, SqT.of (sG _ _ ha), at1 _ _ _, ?_⟩
      refine ⟨_, rfl, rfl, _, rfl, ?_⟩
      show if decide (V.str "list" = V.str "op") = true then _ else _
      rw [wz _ _ (by decide +kernel)]
      refine iteF ?_
      refine ⟨_, rfl, rfl, _, rfl, ?_⟩
      show if decide (V.str "list" = V.str "note") = true then _ else _
      rw [wz _ _ (by decide +kernel)]
      refine iteF ?_
      have hpa := sG _ _ hb
      have hats := hats0.keep (tk_same sG)
      have ef := s2 _ _ e1
      refine ⟨_, rfl, ?_⟩
      refine ⟨pa, rfl, ⟨_, SqT.of hpa⟩, for_tup (K := K) (a := pa) (xs := xs)
        (fun (i : Nat) σ G2 => ∃ (fa : Addr) (ys : List Str) (v10 : Option V), σ = [some (.ref a), some (.ref hd), some (.str "list"), some (.ref fa), none, none, none, none, none, some (.ref pa), v10, none] ∧ Same G0 G2 ∧ G2 fa = some (.lst (ys.map V.str)) ∧ ys.length ≤ Ex.sizes (l.take i) ∧ ∀ t, t ∈ ys ↔ freeIn t ((l.take i).map (·, hs)))
        ⟨f0, [], none, rfl, fun _ _ e => e, ef, Nat.zero_le _, fun t => ⟨fun h => absurd h List.not_mem_nil, fun ⟨_, h, _⟩ => absurd h List.not_mem_nil⟩⟩ (fun i σ G2 _ ⟨fa, ys, v10, _, s2, _⟩ => SqT.of (s2 _ _ hpa)) ?_ ?_⟩
      · rintro i x σ G2 hx ⟨fa, ys, v10, rfl, s2, h1, h2, h3⟩
        obtain ⟨k, hk, hat⟩ := hats.get i hx
        have kmem : k ∈ l := List.mem_of_getElem? hk
        have z1 := size_mem kmem
        have z2 := deps_mem kmem
        have z3 := sizes_take l i
        have sz : Ex.sizes (l.take (i + 1)) = Ex.sizes (l.take i) + k.size := by
          rw [List.take_add_one, hk, Ex.sizes_app]
          show _ + (k.size + 0) = _
          omega
        refine ⟨_, rfl, _, rfl, _, rfl, x, hd, k, hs, rfl, hat.keep (tk_same s2), by omega, by omega, s2 _ _ (sG _ _ hhd), by omega, fun u2 zs H3 s3 hz hzl hmem => ?_⟩
        refine ⟨fa, u2, _, _, rfl, rfl, s3 _ _ h1, hz, by rw [List.length_map, List.length_map]; exact Nat.le_of_lt (szl (by omega)), fun l2 hl2 => ?_⟩
        rw [← List.map_append]
        refine ⟨l2, ys ++ zs, _, rfl, sameT s2 (sameT s3 (same_new hl2 _)), upd_same, by rw [List.length_append]; omega, fun t => ?_⟩
        rw [List.mem_append, h3 t, hmem t, List.take_add_one, hk, List.map_append, free_app]
        show _ ∨ _ ↔ _ ∨ freeIn t [(k, hs)]
        rw [free_one]
      · rintro σ G2 ⟨fa, ys, v10, rfl, s2, h1, h2, h3⟩
        rw [hats.len, List.take_length] at h2 h3
        exact ⟨_, rfl, q fa ys G2 (sameT sG s2) h1 (by omega) fun t => by rw [h3 t]; exact free_plain⟩
    | lam ns e =>
      obtain ⟨a, b', u, rfl, ha, hb, hns, hu⟩ := he
      have hdp : (Ex.lam ns e).dep = 1 + e.dep := rfl
      have hsp : (Ex.lam ns e).size = 1 + e.size := rfl
      have hnl := hns.len
      refine ⟨_, rfl, a, _, 0, .str "lam", rfl, rfl, SqT.of ha, at0 _ _, ?_⟩
      refine ⟨_, rfl, rfl, _, rfl, ?_⟩
      show if decide (V.str "lam" = V.str "var") = true then _ else _
      rw [wz _ _ (by decide +kernel)]
      refine iteF ?_
      refine ⟨_, rfl, rfl, _, rfl, ?_⟩
      show if decide (V.str "lam" = V.str "num") = true then _ else _
      rw [wz _ _ (by decide +kernel)]
      refine iteF ?_
      refine ⟨_, rfl, rfl, _, rfl, ?_⟩
      show if decide (V.str "lam" = V.str "con") = true then _ else _
      rw [wz _ _ (by decide +kernel)]
      refine iteF ?_
      refine ⟨_, rfl, rfl, _, rfl, ?_⟩
      show if decide (V.str "lam" = V.str "lam") = true then _ else _
      rw [wtt]
      refine iteT ?_
      refine ⟨_, rfl, a, _, 2, u, rfl, rfl, SqT.of ha, at2 _ _ _ _, _, rfl, _, rfl, a, _, 1, .ref b', rfl, rfl, SqT.of ha, at1 _ _ _, b', _, rfl, .inr (SqT.of hb), fun l1 hl1 => ?_⟩
      have s1 := same_new hl1 (.lst (ns.map V.str))
      refine ⟨hd, l1, _, _, rfl, rfl, s1 _ _ hhd, upd_same, by rw [List.length_map, List.length_map]; exact Nat.le_of_lt (szl (by omega)), fun l2 hl2 => ?_⟩
      rw [← List.map_append]
      have s2 := same_new hl2 (.lst ((hs ++ ns).map V.str))
      have s12 := sameT s1 s2
      refine ⟨u, l2, e, hs ++ ns, rfl, hu.keep (tk_same s12), by omega, by omega, upd_same, by rw [List.length_append]; omega, fun u2 ys H3 s3 hy hyl hmem => ?_⟩
      refine q u2 ys H3 (sameT s12 s3) hy (by omega) fun t => ?_
      rw [hmem t, List.mem_append]
      exact ⟨fun ⟨h1, h2⟩ => ⟨⟨fun z => h2 (.inr z), h1⟩, fun z => h2 (.inl z)⟩, fun ⟨⟨h1, h2⟩, h3⟩ => ⟨h2, fun z => z.elim h3 h1⟩⟩
    | lt gs l e =>
      obtain ⟨a, b', xs, u, rfl, ha, hb, hrows, hdf, hu⟩ := he
      have hdp : (Ex.lt gs l e).dep = 1 + max (Ex.deps l) e.dep := rfl
      have hsp : (Ex.lt gs l e).size = 1 + Ex.sizes l + e.size := rfl
      have hrl := hrows.len
      have hdl := hdf.len
      refine ⟨_, rfl, a, _, 0, .str "let", rfl, rfl, SqT.of ha, at0 _ _, ?_⟩
      refine ⟨_, rfl, rfl, _, rfl, ?_⟩
      show if decide (V.str "let" = V.str "var") = true then _ else _
      rw [wz _ _ (by decide +kernel)]
      refine iteF ?_
      refine ⟨_, rfl, rfl, _, rfl, ?_⟩
      show if decide (V.str "let" = V.str "num") = true then _ else _
      rw [wz _ _ (by decide +kernel)]
      refine iteF ?_
      refine ⟨_, rfl, rfl, _, rfl, ?_⟩
      show if decide (V.str "let" = V.str "con") = true then _ else _
      rw [wz _ _ (by decide +kernel)]
      refine iteF ?_
      refine ⟨_, rfl, rfl, _, rfl, ?_⟩
      show if decide (V.str "let" = V.str "lam") = true then _ else _
      rw [wz _ _ (by decide +kernel)]
      refine iteF ?_
      refine ⟨by show 0 ≤ sizeLine; decide, fun f0 hf0 => ?_⟩
      have s1 := same_new hf0 (.lst [])
      have e1 : upd H f0 (.lst []) f0 = some (.lst (([] : List Str).map V.str)) := upd_same
      generalize upd H f0 (.lst []) = H1 at s1 e1 ⊢
      refine ⟨_, rfl, rfl, _, rfl, ?_⟩
      show if decide (V.str "let" = V.str "let") = true then _ else _
      rw [wtt]
      refine iteT ?_
      refine ⟨_, rfl, _, rfl, a, _, 1, .ref b', rfl, rfl, SqT.of (s1 _ _ ha), at1 _ _ _, b', rfl, ⟨_, SqT.of (s1 _ _ hb)⟩, fun D hD => ?_⟩
      refine lc_tup (K := K) (a := b') (xs := xs) (fun i G => G D = some (.lst ((defs (gs.take i)).map V.str)) ∧ Same H1 G ∧ (defs (gs.take i)).length ≤ i) ⟨upd_same, same_new hD _, Nat.le_refl _⟩ (fun i G hi ⟨h1, h2, _⟩ => SqT.of (h2 _ _ (s1 _ _ hb))) ?_ ?_
      · rintro i x G hx ⟨h1, h2, h3⟩
        obtain ⟨e', h, r, g1, g2, rfl, g3⟩ := hrows.get i hx
        have hil : i < l.length := (List.getElem?_eq_some_iff.mp g1).1
        have hll := Ex.sizes_len l
        have sH := sameT s1 h2
        refine ⟨rfl, ?_⟩
        rcases g3 with ⟨rfl, w', g4⟩ | ⟨q', b2, u2, rfl, g4, g5, g6, g7⟩
        · have ed : defs (gs.take (i + 1)) = defs (gs.take i) := by
            rw [List.take_add_one, g2, defs_app]
            exact List.append_nil _
          refine ⟨_, rfl, r, _, 0, .str "sign", rfl, rfl, SqT.of (sH _ _ g4), at0 _ _, rfl, _, rfl, ?_⟩
          show if decide (V.str "sign" = V.str "define") = true then _ else _
          rw [wz _ _ (by decide +kernel)]
          refine iteF ⟨?_, h2, ?_⟩
          · rw [ed]; exact h1
          · rw [ed]; omega
        · have ed : defs (gs.take (i + 1)) = defs (gs.take i) ++ [q'.1] := by
            rw [List.take_add_one, g2, defs_app]
            rfl
          refine ⟨_, rfl, r, _, 0, .str "define", rfl, rfl, SqT.of (sH _ _ g4), at0 _ _, rfl, _, rfl, ?_⟩
          show if decide (V.str "define" = V.str "define") = true then _ else _
          rw [wtt]
          refine iteT ?_
          refine ⟨_, rfl, r, _, 1, .str q'.1, rfl, rfl, SqT.of (sH _ _ g4), at1 _ _ _, _, h1, by rw [List.length_map]; exact szl (by omega), ?_, same_upd hD h2 _, ?_⟩
          · rw [upd_same, ed, List.map_append]
            rfl
          · rw [ed, List.length_append]
            show _ + 1 ≤ _
            omega
      rintro G ⟨hDG, sG, _⟩
      rw [hrl.1, ← hrl.2, List.take_length] at hDG
      have sHG := sameT s1 sG
      refine ⟨hd, D, _, _, rfl, rfl, sHG _ _ hhd, hDG, by rw [List.length_map, List.length_map]; exact Nat.le_of_lt (szl (by omega)), fun inn hinn => ?_⟩
      rw [← List.map_append]
      have s3 := same_new hinn (.lst ((hs ++ defs gs).map V.str))
      have e3 : upd G inn (.lst ((hs ++ defs gs).map V.str)) inn = some (.lst ((hs ++ defs gs).map V.str)) := upd_same
      have hil2 : (hs ++ defs gs).length = hs.length + (defs gs).length := List.length_append
      generalize upd G inn (.lst ((hs ++ defs gs).map V.str)) = G0 at s3 e3 ⊢
      have sG0 := sameT sHG s3
      have ef := s3 _ _ (sG _ _ e1)
      have hrows0 := hrows.keep (tk_same sG0)
      refine ⟨_, rfl, a, _, 1, .ref b', rfl, rfl, SqT.of (sG0 _ _ ha), at1 _ _ _, b', rfl, ⟨_, SqT.of (sG0 _ _ hb)⟩, for_tup (K := K) (a := b') (xs := xs)
        (fun (i : Nat) σ G2 => ∃ (fa : Addr) (ys : List Str) (v4 : Option V), σ = [some (.ref a), some (.ref hd), some (.str "let"), some (.ref fa), v4, some (.ref inn), none, none, none, none, none, none] ∧ Same G0 G2 ∧ G2 fa = some (.lst (ys.map V.str)) ∧ ys.length ≤ Ex.sizes (l.take i) ∧ ∀ t, t ∈ ys ↔ freeIn t ((dfn (l.take i) (gs.take i)).map fun q => (q.1, (hs ++ defs gs) ++ q.2.2)))
        ⟨f0, [], none, rfl, fun _ _ e => e, ef, Nat.zero_le _, fun t => ⟨fun h => absurd h List.not_mem_nil, fun ⟨_, h, _⟩ => absurd h List.not_mem_nil⟩⟩ (fun i σ G2 _ ⟨fa, ys, v4, _, s2, _⟩ => SqT.of (s2 _ _ (sG0 _ _ hb))) ?_ ?_⟩
      · rintro i x σ G2 hx ⟨fa, ys, v4, rfl, s2, h1, h2, h3⟩
        obtain ⟨k, h, r, hk, g2, rfl, g3⟩ := hrows0.get i hx
        have kmem : k ∈ l := List.mem_of_getElem? hk
        have z1 := size_mem kmem
        have z2 := deps_mem kmem
        have z3 := sizes_take l i
        have sz : Ex.sizes (l.take (i + 1)) = Ex.sizes (l.take i) + k.size := by
          rw [List.take_add_one, hk, Ex.sizes_app]
          show _ + (k.size + 0) = _
          omega
        have step := dfn_step hk g2
        rcases g3 with ⟨rfl, w', g4⟩ | ⟨q', b2, u2, rfl, g4, g5, g6, g7⟩
        · refine ⟨_, rfl, r, _, 0, .str "sign", rfl, rfl, SqT.of (s2 _ _ g4), at0 _ _, rfl, _, rfl, ?_⟩
          show if decide (V.str "sign" = V.str "define") = true then _ else _
          rw [wz _ _ (by decide +kernel)]
          refine iteF ⟨fa, ys, _, rfl, s2, h1, by omega, fun t => ?_⟩
          rw [step, List.append_nil]
          exact h3 t
        · have hql := g6.len
          refine ⟨_, rfl, r, _, 0, .str "define", rfl, rfl, SqT.of (s2 _ _ g4), at0 _ _, rfl, _, rfl, ?_⟩
          show if decide (V.str "define" = V.str "define") = true then _ else _
          rw [wtt]
          refine iteT ?_
          refine ⟨_, rfl, _, rfl, r, _, 3, u2, rfl, rfl, SqT.of (s2 _ _ g4), at3 _ _ _ _ _, _, rfl, _, rfl, r, _, 2, .ref b2, rfl, rfl, SqT.of (s2 _ _ g4), at2 _ _ _ _, b2, _, rfl, .inr (SqT.of (s2 _ _ g5)), fun l1 hl1 => ?_⟩
          have s4 := same_new hl1 (.lst (q'.2.map V.str))
          refine ⟨inn, l1, _, _, rfl, rfl, s4 _ _ (s2 _ _ e3), upd_same, by rw [List.length_map, List.length_map]; exact Nat.le_of_lt (szl (by omega)), fun l2 hl2 => ?_⟩
          rw [← List.map_append]
          have s5 := same_new hl2 (.lst (((hs ++ defs gs) ++ q'.2).map V.str))
          have s25 := sameT s2 (sameT s4 s5)
          refine ⟨u2, l2, k, (hs ++ defs gs) ++ q'.2, rfl, g7.keep (tk_same s25), by omega, by omega, upd_same, by rw [List.length_append]; omega, fun u3 zs H3 s6 hz hzl hmem => ?_⟩
          have s26 := sameT s25 s6
          refine ⟨fa, u3, _, _, rfl, rfl, s6 _ _ (s5 _ _ (s4 _ _ h1)), hz, by rw [List.length_map, List.length_map]; exact Nat.le_of_lt (szl (by omega)), fun l3 hl3 => ?_⟩
          rw [← List.map_append]
          refine ⟨l3, ys ++ zs, _, rfl, sameT s26 (same_new hl3 _), upd_same, by rw [List.length_append]; omega, fun t => ?_⟩
          rw [step, List.map_append, free_app, List.mem_append, h3 t, hmem t]
          show _ ∨ _ ↔ _ ∨ freeIn t [(k, (hs ++ defs gs) ++ q'.2)]
          rw [free_one]
      rintro σ G2 ⟨fa, ys, v4, rfl, s2, h1, h2, h3⟩
      rw [hrl.1, List.take_length] at h2 h3
      rw [← hrl.2, List.take_length] at h3
      have s02 := sameT sG0 s2
      refine ⟨_, rfl, _, rfl, a, _, 2, u, rfl, rfl, SqT.of (s02 _ _ ha), at2 _ _ _ _, _, rfl, u, inn, e, hs ++ defs gs, rfl, hu.keep (tk_same s02), by omega, by omega, s2 _ _ e3, by omega, fun u3 zs H3 s6 hz hzl hmem => ?_⟩
      refine ⟨fa, u3, _, _, rfl, rfl, s6 _ _ h1, hz, by rw [List.length_map, List.length_map]; exact Nat.le_of_lt (szl (by omega)), fun l3 hl3 => ?_⟩
      rw [← List.map_append]
      refine q l3 (ys ++ zs) _ (sameT s02 (sameT s6 (same_new hl3 _))) upd_same (by rw [List.length_append]; omega) fun t => ?_
      rw [← free_open (Ex.lt gs l e) rfl]
      show _ ↔ freeIn t ((dfn l gs).map (fun q => (q.1, (hs ++ defs gs) ++ q.2.2)) ++ [(e, hs ++ defs gs)])
      rw [free_app, free_one, List.mem_append, h3 t, hmem t]
    | cs e ps l =>
      obtain ⟨a, b', xs, u, rfl, ha, hb, halts, hu⟩ := he
      have hdp : (Ex.cs e ps l).dep = 1 + max e.dep (Ex.deps l) := rfl
      have hsp : (Ex.cs e ps l).size = 1 + e.size + Ex.sizes l := rfl
      have hrl := halts.len
      refine ⟨_, rfl, a, _, 0, .str "case", rfl, rfl, SqT.of ha, at0 _ _, ?_⟩
      refine ⟨_, rfl, rfl, _, rfl, ?_⟩
      show if decide (V.str "case" = V.str "var") = true then _ else _
      rw [wz _ _ (by decide +kernel)]
      refine iteF ?_
      refine ⟨_, rfl, rfl, _, rfl, ?_⟩
      show if decide (V.str "case" = V.str "num") = true then _ else _
      rw [wz _ _ (by decide +kernel)]
      refine iteF ?_
      refine ⟨_, rfl, rfl, _, rfl, ?_⟩
      show if decide (V.str "case" = V.str "con") = true then _ else _
      rw [wz _ _ (by decide +kernel)]
      refine iteF ?_
      refine ⟨_, rfl, rfl, _, rfl, ?_⟩
      show if decide (V.str "case" = V.str "lam") = true then _ else _
      rw [wz _ _ (by decide +kernel)]
      refine iteF ?_
      refine ⟨by show 0 ≤ sizeLine; decide, fun f0 hf0 => ?_⟩
      have s1 := same_new hf0 (.lst [])
      have e1 : upd H f0 (.lst []) f0 = some (.lst (([] : List Str).map V.str)) := upd_same
      generalize upd H f0 (.lst []) = H1 at s1 e1 ⊢
      refine ⟨_, rfl, rfl, _, rfl, ?_⟩
      show if decide (V.str "case" = V.str "let") = true then _ else _
      rw [wz _ _ (by decide +kernel)]
      refine iteF ?_
      refine ⟨_, rfl, rfl, _, rfl, ?_⟩
      show if decide (V.str "case" = V.str "case") = true then _ else _
      rw [wtt]
      refine iteT ?_
      refine ⟨_, rfl, a, _, 1, u, rfl, rfl, SqT.of (s1 _ _ ha), at1 _ _ _, _, rfl, u, hd, e, hs, rfl, hu.keep (tk_same s1), by omega, by omega, s1 _ _ hhd, by omega, fun f1 ys1 G0 s2 hf1 hl1 hm1 => ?_⟩
      have sG0 := sameT s1 s2
      have halts0 := halts.keep (tk_same sG0)
      refine ⟨_, rfl, a, _, 2, .ref b', rfl, rfl, SqT.of (sG0 _ _ ha), at2 _ _ _ _, b', rfl, ⟨_, SqT.of (sG0 _ _ hb)⟩, for_tup (K := K) (a := b') (xs := xs)
        (fun (i : Nat) σ G2 => ∃ (fa : Addr) (ys : List Str) (v6 v7 v8 : Option V), σ = [some (.ref a), some (.ref hd), some (.str "case"), some (.ref fa), none, none, v6, v7, v8, none, none, none] ∧ Same G0 G2 ∧ G2 fa = some (.lst (ys.map V.str)) ∧ ys.length ≤ e.size + Ex.sizes (l.take i) ∧ ∀ t, t ∈ ys ↔ freeIn t ((e, hs) :: altO hs (l.take i) (ps.take i)))
        ⟨f1, ys1, none, none, none, rfl, fun _ _ e => e, hf1, by omega, fun t => by
          show _ ↔ freeIn t [(e, hs)]
          rw [free_one]
          exact hm1 t⟩ (fun i σ G2 _ ⟨fa, ys, v6, v7, v8, _, s2, _⟩ => SqT.of (s2 _ _ (sG0 _ _ hb))) ?_ ?_⟩
      · rintro i x σ G2 hx ⟨fa, ys, v6, v7, v8, rfl, s3, h1, h2, h3⟩
        obtain ⟨k, p, r, pv, u2, hk, g2, rfl, g3, g4, g5, g6⟩ := halts0.get i hx
        have kmem : k ∈ l := List.mem_of_getElem? hk
        have z1 := size_mem kmem
        have z2 := deps_mem kmem
        have z3 := sizes_take l i
        have z4 := g5.len
        have sz : Ex.sizes (l.take (i + 1)) = Ex.sizes (l.take i) + k.size := by
          rw [List.take_add_one, hk, Ex.sizes_app]
          show _ + (k.size + 0) = _
          omega
        refine ⟨r, _, rfl, SqT.of (s3 _ _ g3), rfl, _, _, rfl, _, _, rfl, rfl, ?_⟩
        refine ⟨by show 0 ≤ sizeLine; decide, fun n0 hn0 => ?_⟩
        have s4 := same_new hn0 (.lst [])
        have e4 : upd G2 n0 (.lst []) n0 = some (.lst (([] : List Str).map V.str)) := upd_same
        generalize upd G2 n0 (.lst []) = G3 at s4 e4 ⊢
        have s34 := sameT s3 s4
        have g4' := g4.keep (tk_same s34)
        refine ⟨fun σ G => ∃ N : Addr, σ = [some (.ref a), some (.ref hd), some (.str "case"), some (.ref fa), none, none, some pv, some u2, some (.ref N), none, none, none] ∧ Same G0 G ∧ G fa = some (.lst (ys.map V.str)) ∧ G N = some (.lst ((match p with | .con _ ns => ns | _ => ([] : List Str)).map V.str)), ?_, ?_⟩
        · cases p with
          | con sn ns =>
            obtain ⟨pa, pb, rfl, hp1, hp2⟩ := g4'
            refine ⟨_, rfl, pa, _, 0, .str "pcon", rfl, rfl, SqT.of hp1, at0 _ _, rfl, _, rfl, ?_⟩
            show if decide (V.str "pcon" = V.str "pcon") = true then _ else _
            rw [wtt]
            refine iteT ?_
            refine ⟨_, rfl, pa, _, 2, .ref pb, rfl, rfl, SqT.of hp1, at2 _ _ _ _, pb, _, rfl, .inr (SqT.of hp2), fun l1 hl1 => ?_⟩
            exact ⟨l1, rfl, sameT s34 (same_new hl1 _), same_new hl1 _ _ _ (s4 _ _ h1), upd_same⟩
          | num m =>
            obtain ⟨pa, rfl, hp1⟩ := g4'
            refine ⟨_, rfl, pa, _, 0, .str "pnum", rfl, rfl, SqT.of hp1, at0 _ _, rfl, _, rfl, ?_⟩
            show if decide (V.str "pnum" = V.str "pcon") = true then _ else _
            rw [wz _ _ (by decide +kernel)]
            refine iteF ?_
            exact ⟨n0, rfl, s34, s4 _ _ h1, e4⟩
          | nm z =>
            obtain ⟨pa, rfl, hp1⟩ := g4'
            refine ⟨_, rfl, pa, _, 0, .str "pname", rfl, rfl, SqT.of hp1, at0 _ _, rfl, _, rfl, ?_⟩
            show if decide (V.str "pname" = V.str "pcon") = true then _ else _
            rw [wz _ _ (by decide +kernel)]
            refine iteF ?_
            exact ⟨n0, rfl, s34, s4 _ _ h1, e4⟩
        rintro σ G4 ⟨N, rfl, s5, h5, hN⟩
        have g4'' := g4.keep (tk_same s5)
        refine ⟨fun σ G => ∃ N : Addr, σ = [some (.ref a), some (.ref hd), some (.str "case"), some (.ref fa), none, none, some pv, some u2, some (.ref N), none, none, none] ∧ Same G0 G ∧ G fa = some (.lst (ys.map V.str)) ∧ G N = some (.lst (p.names.map V.str)), ?_, ?_⟩
        · cases p with
          | con sn ns =>
            obtain ⟨pa, pb, rfl, hp1, hp2⟩ := g4''
            refine ⟨_, rfl, pa, _, 0, .str "pcon", rfl, rfl, SqT.of hp1, at0 _ _, rfl, _, rfl, ?_⟩
            show if decide (V.str "pcon" = V.str "pname") = true then _ else _
            rw [wz _ _ (by decide +kernel)]
            refine iteF ?_
            exact ⟨N, rfl, s5, h5, hN⟩
          | num m =>
            obtain ⟨pa, rfl, hp1⟩ := g4''
            refine ⟨_, rfl, pa, _, 0, .str "pnum", rfl, rfl, SqT.of hp1, at0 _ _, rfl, _, rfl, ?_⟩
            show if decide (V.str "pnum" = V.str "pname") = true then _ else _
            rw [wz _ _ (by decide +kernel)]
            refine iteF ?_
            exact ⟨N, rfl, s5, h5, hN⟩
          | nm z =>
            obtain ⟨pa, rfl, hp1⟩ := g4''
            refine ⟨_, rfl, pa, _, 0, .str "pname", rfl, rfl, SqT.of hp1, at0 _ _, rfl, _, rfl, ?_⟩
            show if decide (V.str "pname" = V.str "pname") = true then _ else _
            rw [wtt]
            refine iteT ?_
            refine ⟨_, rfl, pa, _, 1, .str z, rfl, rfl, SqT.of hp1, at1 _ _ _, by show 1 ≤ sizeLine; decide, fun l1 hl1 => ?_⟩
            exact ⟨l1, rfl, sameT s5 (same_new hl1 _), same_new hl1 _ _ _ h5, upd_same⟩
        clear g4'' hN h5 s5 N G4
        rintro σ G4 ⟨N, rfl, s5, h5, hN⟩
        refine ⟨_, rfl, _, rfl, _, rfl, _, rfl, hd, N, _, _, rfl, rfl, s5 _ _ (sG0 _ _ hhd), hN, by rw [List.length_map, List.length_map]; exact Nat.le_of_lt (szl (by omega)), fun l2 hl2 => ?_⟩
        rw [← List.map_append]
        have s6 := same_new hl2 (.lst ((hs ++ p.names).map V.str))
        have s56 := sameT s5 s6
        refine ⟨u2, l2, k, hs ++ p.names, rfl, g6.keep (tk_same s56), by omega, by omega, upd_same, by rw [List.length_append]; omega, fun u3 zs H3 s7 hz hzl hmem => ?_⟩
        refine ⟨fa, u3, _, _, rfl, rfl, s7 _ _ (s6 _ _ h5), hz, by rw [List.length_map, List.length_map]; exact Nat.le_of_lt (szl (by omega)), fun l3 hl3 => ?_⟩
        rw [← List.map_append]
        refine ⟨l3, ys ++ zs, _, _, _, rfl, sameT s56 (sameT s7 (same_new hl3 _)), upd_same, by rw [List.length_append]; omega, fun t => ?_⟩
        rw [altO_step hs hk g2, ← List.cons_append, free_app, free_one, List.mem_append, h3 t, hmem t]
      rintro σ G2 ⟨fa, ys, v6, v7, v8, rfl, s3, h1, h2, h3⟩
      rw [hrl.1, List.take_length] at h2 h3
      rw [← hrl.2, List.take_length] at h3
      exact ⟨_, rfl, q fa ys G2 (sameT sG0 s3) h1 (by omega) fun t => by
        rw [← free_open (Ex.cs e ps l) rfl, h3 t]
        exact Iff.rfl⟩
end
end Toy

set_option Elab.async false
set_option linter.all false
set_option maxRecDepth 100000
set_option maxHeartbeats 4000000
/-! Part J: each name once; the law. -/
namespace Toy
open PySem L2
open PyProof.Rows (envOfC sortedS)
theorem strs_dp {K : PySem.W.Frag} {H : Hp} : ∀ ks : List Str, DpAll K H (ks.map V.str) (ks.map PyData.str)
  | [] => .nil
  | s :: ks => .cons (.str s) (strs_dp ks)
theorem strs_lay : ∀ ks : List Str, (∀ k ∈ ks, PyData.strOk k = true) → PyData.canLayAll0 (ks.map PyData.str) = true
  | [], _ => by simp [PyData.canLayAll0]
  | s :: ks, h => by
    have z := strs_lay ks fun k hk => h k (List.mem_cons_of_mem _ hk)
    have z2 : PyData.strOk s = true := h s (List.mem_cons_self ..)
    simp [PyData.canLayAll0, PyData.canLay0, z, z2]
theorem strs_depth : ∀ ks : List Str, PyData.depthAll (ks.map PyData.str) ≤ 1
  | [] => by simp [PyData.depthAll]
  | s :: ks => by
    have z := strs_depth ks
    simp [PyData.depthAll, PyData.depth]
    omega
theorem ok_abc : ∀ s ∈ ABC, PyData.strOk s = true := by decide +kernel
theorem strs_shaped {ks : List Str} (h : ∀ k ∈ ks, k ∈ ABC) : SeqAt.shaped (.list (ks.map PyData.str)) = true := by
  have z := strs_lay ks fun k hk => ok_abc k (h k hk)
  have z2 := strs_depth ks
  unfold SeqAt.shaped
  rw [Bool.and_eq_true]
  refine ⟨by simp [PyData.canLay0, z], decide_eq_true ?_⟩
  have z3 : (PyData.list (ks.map PyData.str)).depth ≤ 1 + PyData.depthAll (ks.map PyData.str) := by simp [PyData.depth]; omega
  omega
theorem strs_eq {ks : List Str} (h : ∀ k ∈ ks, k ∈ ABC) : PyData.eqv (.list (ks.map PyData.str)) (.list (ks.map PyData.str)) = true :=
  SeqAt.eqv_refl _ (by
    have z := strs_lay ks fun k hk => ok_abc k (h k hk)
    simp [PyData.canLay0, z])
structure TxtL (mg : Str → Option Value) : Prop where
  zlen : mg "len" = none
  zlist : mg "list" = none
  ztuple : mg "tuple" = none
  zsorted : mg "sorted" = none
  zisinstance : mg "isinstance" = none
section
variable {P : Program} {w : World} {K : PySem.W.Frag} {mg : Str → Option Value} {base : Heap}
abbrev sOnce : Stmt := topS 18
theorem scOnce : FnScope ["names", "found", "name"] ["names"] (defScope sOnce) := ⟨rfl, rfl, rfl, by decide +kernel, rfl, by decide +kernel, by decide +kernel⟩
def spOnce : Sp := fun vs H Q _ => ∃ (a : Addr) (xs : List Str), vs = [.ref a] ∧ H a = some (.lst (xs.map V.str)) ∧ xs.length ≤ 50000 ∧ ∀ (u : Addr) (ys : List Str) (H' : Hp), Same H H' → H' u = some (.lst (ys.map V.str)) → Up ys → (∀ s, s ∈ ys ↔ s ∈ xs) → Q (.ref u) H'
theorem c_once {f : Addr} {fd : FuncData} (T : TxtL mg) (F : Fun K "_law_once" "_law_once" sOnce f fd) (b : Binds K fd ["names"] []) (hm : mg "_law_once" = some (.ref f)) : C8.Cal P w K mg base 1 "_law_once" spOnce [] := by
  refine cal_of F hm b scOnce (fun vs H Q E h => ?_) (fun cdv A outer s H vs Q E hr h => ?_)
  · obtain ⟨a, xs, rfl, _⟩ := h
    rfl
  obtain ⟨a, xs, rfl, ha, hl, q⟩ := h
  refine ⟨_, (pss_cons (ps_set (i := 1) scOnce.nd rfl (Or.inl rfl) (pe_lst pa_nil))
    (pss_cons (ps_for PassesOwn.never rfl (pi_list (pe_callB cr_sortedSA rfl T.zsorted PyProof.Rows.boot_sorted (pa_cons (pv 0) pa_nil))) (pg_name (i := 2) scOnce.nd rfl (Or.inl rfl))
      (pss_one (ps_if (pt_cmpR op_notIn_seq (pv 2) (pv 1) rfl)
      (pss_one (ps_expr (pe_bm PySem.F.plainAttrs_list PySem.F.slot_list_append PySem.F.type_list_append mt_append (pv 1) (pa_cons (pv 2) pa_nil))))
      pss_nil)))
    (pss_one (ps_ret (pv 1))))), ?_⟩
  refine ⟨by show 0 ≤ sizeLine; decide, fun f0 hf0 => ?_⟩
  have s1 := same_new hf0 (.lst [])
  have e1 : upd H f0 (.lst []) f0 = some (.lst (([] : List Str).map V.str)) := upd_same
  generalize upd H f0 (.lst []) = H1 at s1 e1 ⊢
  refine ⟨_, rfl, a, xs, rfl, SqL.of (s1 _ _ ha), fun zs l hperm hsrt hl0 => ?_⟩
  have s2 := same_new hl0 (.lst (zs.map V.str))
  have e2 : upd H1 l (.lst (zs.map V.str)) l = some (.lst (zs.map V.str)) := upd_same
  have nlf : l ≠ f0 := fun z => by rw [z, e1] at hl0; cases hl0
  generalize upd H1 l (.lst (zs.map V.str)) = H2 at s2 e2 ⊢
  have s12 := sameT s1 s2
  have hz := rise_of hsrt
  have hzl : zs.length ≤ 50000 := by rw [hperm.length_eq]; exact hl
  refine ⟨l, rfl, ⟨_, SqL.of e2⟩, for_list (K := K) (a := l) (xs := zs.map V.str)
    (fun (i : Nat) σ G => ∃ (ys : List Str) (v2 : Option V), σ = [some (.ref a), some (.ref f0), v2] ∧ Same H G ∧ G l = some (.lst (zs.map V.str)) ∧ G f0 = some (.lst (ys.map V.str)) ∧ Up ys ∧ ys.length ≤ i ∧ ∀ s, s ∈ ys ↔ s ∈ zs.take i)
    ⟨[], none, rfl, s12, e2, s2 _ _ e1, List.Pairwise.nil, Nat.le_refl _, fun s => Iff.rfl⟩ (fun i σ G _ ⟨ys, v2, _, _, h2, _⟩ => SqL.of h2) ?_ ?_⟩
  · rintro i x σ G hx ⟨ys, v2, rfl, h1, h2, h3, h4, h5, h6⟩
    obtain ⟨y, hy, ey⟩ : ∃ y, zs[i]? = some y ∧ x = .str y := by
      rw [List.getElem?_map] at hx
      cases e : zs[i]? with
      | none => rw [e] at hx; cases hx
      | some y => rw [e] at hx; exact ⟨y, rfl, (Option.some.inj hx).symm⟩
    subst ey
    have hil : i < zs.length := (List.getElem?_eq_some_iff.mp hy).1
    have tk : zs.take (i + 1) = zs.take i ++ [y] := by rw [List.take_add_one, hy]; rfl
    refine ⟨_, rfl, _, rfl, f0, _, rfl, .inl (SqL.of h3), rfl, flat_strs ys, _, rfl, ?_⟩
    by_cases hin : y ∈ ys
    · have z : inV (.str y) (ys.map V.str) = true := (inV_strs y ys).mpr hin
      show if (!inV (.str y) (ys.map V.str)) = true then _ else _
      rw [z]
      refine iteF ⟨ys, _, rfl, h1, h2, h3, h4, by omega, fun s => ?_⟩
      rw [tk, List.mem_append, List.mem_singleton, h6 s]
      exact ⟨.inl, fun h => h.elim id fun e => by rw [e]; exact (h6 y).mp hin⟩
    · have z : inV (.str y) (ys.map V.str) = false := by
        cases h : inV (.str y) (ys.map V.str) with
        | false => rfl
        | true => exact (hin ((inV_strs y ys).mp h)).elim
      show if (!inV (.str y) (ys.map V.str)) = true then _ else _
      rw [z]
      refine iteT ?_
      refine ⟨_, rfl, .inl ⟨rfl, _, SqL.of h3⟩, _, rfl, f0, _, _, rfl, rfl, h3, by rw [List.length_map]; exact szl (by omega), ?_⟩
      refine ⟨ys ++ [y], _, rfl, same_upd hf0 h1 _, by rw [upd_ne nlf]; exact h2, by rw [upd_same, List.map_append]; rfl, ?_, by rw [List.length_append]; show _ + 1 ≤ _; omega, fun s => ?_⟩
      · refine List.pairwise_append.mpr ⟨h4, List.pairwise_singleton _ _, fun u hu v hv => ?_⟩
        rw [List.mem_singleton.mp hv]
        have r2 : Rise (zs.take i ++ [y]) := by rw [← tk]; exact hz.sublist (List.take_sublist _ _)
        have r3 := (List.pairwise_append.mp r2).2.2 u ((h6 u).mp hu) y (List.mem_singleton.mpr rfl)
        cases e : lts u y with
        | true => rfl
        | false =>
          have e3 : u = y := lts_tri e r3
          rw [e3] at hu
          exact (hin hu).elim
      · rw [tk, List.mem_append, List.mem_append, h6 s]
  · rintro σ G ⟨ys, v2, rfl, h1, h2, h3, h4, h5, h6⟩
    rw [List.length_map, List.take_length] at h6
    exact ⟨_, rfl, q f0 ys G h1 h3 h4 fun s => by rw [h6 s, hperm.mem_iff]⟩
abbrev sLaw : Stmt := topS 19
theorem scLaw : FnScope ["script", "draws", "expression", "due", "told"] ["script"] (defScope sLaw) := ⟨rfl, rfl, rfl, by decide +kernel, rfl, by decide +kernel, by decide +kernel⟩
def spLaw (K : PySem.W.Frag) : Sp := fun vs H Q _ => ∃ (a : Addr) (ns : List Int), vs = [.ref a] ∧ SqL K H a (ns.map V.int) ∧ ns.length ≤ 63 ∧ ∀ H', Q (.bl true) H'
theorem c_law {f : Addr} {fd : FuncData} (T : TxtL mg) (c_law_reader : C8.Cal P w K mg base 2 "_law_reader" (spReader K) []) (c_law_next : C8.Cal P w K mg base 2 "_law_next" spNext []) (c_law_expr : C8.Cal P w K mg base 15 "_law_expr" (spExpr 6) []) (cfree_values : C8.Cal P w K mg base 3 "free_values" spFree [])
    (c_law_free : C8.Cal P w K mg base 7 "_law_free" (spLFree 6) []) (c_law_once : C8.Cal P w K mg base 1 "_law_once" spOnce []) (F : Fun K "law" "law" sLaw f fd) : FnOk P w K mg base CX0 16 f fd ["script"] (spLaw K) := by
  refine F.ok scLaw (fun vs H Q E h => ?_) (fun cdv A outer s H vs Q E hr h => ?_)
  · obtain ⟨a, ns, rfl, _⟩ := h
    rfl
  obtain ⟨a, ns, rfl, hS, h63, q⟩ := h
  have hu := hu_of hr
  have hu64 := hr.units
  refine ⟨_, (pss_cons (ps_set (i := 1) scLaw.nd rfl (Or.inl rfl) (C8.pe_c c_law_reader hr (by decide) rfl (pa_cons (pv 0) pa_nil)))
    (pss_cons (ps_set (i := 2) scLaw.nd rfl (Or.inl rfl) (C8.pe_c c_law_expr hr (by decide) rfl (pa_cons (pv 1) (pa_cons (C8.pe_c c_law_next hr (by decide) rfl (pa_cons (pv 1) (pa_cons pe_int pa_nil))) pa_nil))))
    (pss_cons (ps_set (i := 3) scLaw.nd rfl (Or.inl rfl) (C8.pe_c c_law_once hr (by decide) rfl (pa_cons (C8.pe_c c_law_free hr (by decide) rfl (pa_cons (pv 2) (pa_cons (pe_lst pa_nil) pa_nil))) pa_nil)))
    (pss_cons (ps_set (i := 4) scLaw.nd rfl (Or.inl rfl) (C8.pe_c cfree_values hr (by decide) rfl (pa_cons (pv 2) pa_nil)))
    (pss_cons (ps_if (PW.pt (pw_or (pt_not (pt_val (pe_callB call_isi rfl T.zisinstance boot_isinstance (pa_cons (pv 4) (pa_cons (pe_bltn (v := .ty "tuple") rfl T.ztuple boot_tuple rfl) pa_nil))))) (pw_or1 (pt_cmpR (op_neD hu64) (pe_callTy call_list_of rfl T.zlist boot_list (pa_cons (pv 4) pa_nil)) (pv 3) (nomark _)))))
      (pss_one (ps_ret pe_bl))
      pss_nil)
    (pss_cons (ps_if (pt_cmpR op_eq (pe_callB call_len_seq rfl T.zlen PySem.boot_len (pa_cons (pv 3) pa_nil)) pe_int (nomark _))
      (pss_one (ps_ret pe_bl))
      pss_nil)
    (pss_one (ps_ret (pe_cmpR (op_eqD hu64) (pe_callTy call_list_of rfl T.zlist boot_list (pa_cons (C8.pe_c cfree_values hr (by decide) rfl (pa_cons (pe_tup (pa_cons pe_str (pa_cons (pe_tup (pa_cons (pe_ix ix_list (pv 3) pe_int (fun _ _ => rfl)) pa_nil)) (pa_cons (pv 2) pa_nil)))) pa_nil)) pa_nil)) (pe_slice sl_list (pv 3) (po_some pe_int) po_none) (nomark _)))))))))), ?_⟩
  refine ⟨_, rfl, a, ns, rfl, hS, h63, fun p r H1 hp s1 d1 => ?_⟩
  refine ⟨_, rfl, _, rfl, p, r, 6, rfl, by decide, d1, fun n1 H2 n10 n16 k2 d2 => ?_⟩
  refine ⟨p, r, n1.toNat, by show [V.ref p, V.int n1] = _; rw [Int.toNat_of_nonneg n10], by omega, d2, fun ve e H3 k3 d3 at3 g3 => ?_⟩
  have hdk : e.dep ≤ 5 := by have := g3.dep; omega
  have hsk : e.size ≤ 3752 := by
    have h1 := g3.size
    have h2 := kX_le (show n1.toNat ≤ 5 by omega)
    rw [kX5] at h2
    omega
  refine ⟨_, rfl, by show 0 ≤ sizeLine; decide, fun h0 hh0 => ?_⟩
  have s4 := same_new hh0 (.lst [])
  have e4 : upd H3 h0 (.lst []) h0 = some (.lst (([] : List Str).map V.str)) := upd_same
  generalize upd H3 h0 (.lst []) = H4 at s4 e4 ⊢
  refine ⟨ve, h0, e, [], rfl, at3.keep (tk_same s4), by omega, by omega, e4, by show 0 + _ ≤ _; omega, fun u1 ys1 H5 s5 hy1 hl1 hm1 => ?_⟩
  refine ⟨u1, ys1, rfl, hy1, by omega, fun ud ds H6 s6 hud hup hmem => ?_⟩
  have s36 := sameT s4 (sameT s5 s6)
  have at6 := at3.keep (tk_same s36)
  have mds : ∀ t, t ∈ ds ↔ e.occ t := fun t => by
    rw [hmem t, hm1 t]
    exact ⟨fun h => h.1, fun h => ⟨h, List.not_mem_nil⟩⟩
  have abc : ∀ t ∈ ds, t ∈ ABC := fun t ht => Ex.occ_abc at6 ((mds t).mp ht)
  refine ⟨_, rfl, ve, e, rfl, at6, by omega, fun ut us H7 s7 hut hup2 hmem2 hl2 => ?_⟩
  have eus : us = ds := up_eq hup2 hup fun t => by rw [hmem2 t, mds t]
  subst eus
  have sh := strs_shaped abc
  have eq1 := strs_eq abc
  refine ⟨_, rfl, .ref ut, .ty "tuple", _, _, true, rfl, .ty "tuple", .base (.tup hut), kit_ty (by decide +kernel), _, rfl, ?_⟩
  refine iteF ?_
  refine ⟨_, rfl, ut, _, rfl, .inr (SqT.of hut), fun l8 hl8 => ?_⟩
  have s8 := same_new hl8 (.lst (us.map V.str))
  have e8 : upd H7 l8 (.lst (us.map V.str)) l8 = some (.lst (us.map V.str)) := upd_same
  generalize upd H7 l8 (.lst (us.map V.str)) = H8 at s8 e8 ⊢
  have hud8 := s8 _ _ (s7 _ _ hud)
  refine ⟨_, rfl, _, _, .lst (SqL.of e8) (strs_dp us), .lst (SqL.of hud8) (strs_dp us), sh, sh, _, rfl, ?_⟩
  show if (!PyData.eqv _ _) = true then _ else _
  rw [eq1]
  refine iteF ?_
  have at8 := (at6.keep (tk_same s7)).keep (tk_same s8)
  refine ⟨_, rfl, ud, _, rfl, .inl (SqL.of hud8), rfl, _, rfl, ?_⟩
  cases us with
  | nil =>
    refine iteT ?_
    exact q _
  | cons y0 rest =>
    have z : decide (V.int ((((y0 :: rest).map V.str).length : Nat) : Int) = V.int 0) = false := by
      rw [dec_int, beq_eq_false_iff_ne, List.map_cons, List.length_cons]
      omega
    show if decide (V.int ((((y0 :: rest).map V.str).length : Nat) : Int) = V.int 0) = true then _ else _
    rw [z]
    refine iteF ?_
    refine ⟨_, rfl, ud, _, 0, .str y0, rfl, rfl, SqL.of hud8, at0 _ _, by show 1 ≤ sizeLine; decide, fun t1 ht1 => ?_⟩
    have s9 := same_new ht1 (.tup [.str y0])
    have e9 : upd H8 t1 (.tup [.str y0]) t1 = some (.tup (([y0] : List Str).map V.str)) := upd_same
    generalize upd H8 t1 (.tup [.str y0]) = H9 at s9 e9 ⊢
    refine ⟨_, rfl, by show 3 ≤ sizeLine; decide, fun t2 ht2 => ?_⟩
    have s10 := same_new ht2 (.tup [.str "lam", .ref t1, ve])
    have e10 : upd H9 t2 (.tup [.str "lam", .ref t1, ve]) t2 = some (.tup [.str "lam", .ref t1, ve]) := upd_same
    generalize upd H9 t2 (.tup [.str "lam", .ref t1, ve]) = H10 at s10 e10 ⊢
    refine ⟨.ref t2, .lam [y0] e, rfl, ⟨t2, t1, ve, rfl, e10, s10 _ _ e9, ns_one (abc y0 (List.mem_cons_self ..)), (at8.keep (tk_same s9)).keep (tk_same s10)⟩, by show 1 + e.size ≤ _; omega, fun p3 ys3 H11 s11 h3 up3 mem3 len3 => ?_⟩
    have hupc := List.pairwise_cons.mp hup
    have er : ys3 = rest := up_eq up3 hupc.2 fun t => by
      rw [mem3 t]
      show (t ∉ [y0] ∧ e.occ t) ↔ _
      rw [← mds t, List.mem_singleton, List.mem_cons]
      constructor
      · rintro ⟨h1, h2 | h2⟩
        · exact (h1 h2).elim
        · exact h2
      · intro h
        refine ⟨fun z2 => ?_, .inr h⟩
        have z3 := hupc.1 t h
        rw [z2, lts_asym z3] at z3
        cases z3
    subst er
    have abc3 : ∀ t ∈ ys3, t ∈ ABC := fun t ht => abc t (List.mem_cons_of_mem _ ht)
    refine ⟨p3, _, rfl, .inr (SqT.of h3), fun l12 hl12 => ?_⟩
    have s12 := same_new hl12 (.lst (ys3.map V.str))
    have e12 : upd H11 l12 (.lst (ys3.map V.str)) l12 = some (.lst (ys3.map V.str)) := upd_same
    generalize upd H11 l12 (.lst (ys3.map V.str)) = H12 at s12 e12 ⊢
    refine ⟨_, rfl, 1, rfl, ud, _, rfl, SqL.of (s12 _ _ (s11 _ _ (s10 _ _ (s9 _ _ hud8)))), fun l13 hl13 => ?_⟩
    have cut : cutV ((y0 :: ys3).map V.str) (some 1) none = ys3.map V.str := by
      rw [show (1 : Int) = ((1 : Nat) : Int) from rfl, cutN (by rw [List.map_cons, List.length_cons]; omega)]
      rfl
    rw [cut]
    have s13 := same_new hl13 (.lst (ys3.map V.str))
    refine ⟨_, _, .lst (SqL.of (s13 _ _ e12)) (strs_dp ys3), .lst (SqL.of upd_same) (strs_dp ys3), strs_shaped abc3, strs_shaped abc3, ?_⟩
    rw [strs_eq abc3]
    exact q _
end
end Toy

set_option Elab.async false
set_option linter.all false
set_option maxRecDepth 100000
set_option maxHeartbeats 4000000
/-! The last part: what the program's top has left, and the end. -/
namespace Toy
open PySem L2
open PyProof.Rows (envOfC)
theorem all_mk {l : PySem.W.OpenLaw} {w : World} {K : PySem.W.Frag} {h : Heap} {mg : Str → Option Value} {fa : Addr} {f0 f1 f2 f3 f4 f5 f6 f7 f8 f9 f10 f11 f12 f13 f14 f15 f16 : Addr} (X : K.In h) (G : h.Ns mainGlobals mg) (hfa : mg "law" = some (.ref fa))
    {od0 an0 od1 an1 od2 an2 od3 an3 od4 an4 od5 an5 od6 an6 od7 an7 od8 an8 od9 an9 od10 an10 od11 an11 od12 an12 od13 an13 od14 an14 od15 an15 od16 an16 : Option Addr} {sl0 sl1 sl2 sl3 sl4 sl5 sl6 sl7 sl8 sl9 sl10 sl11 sl12 sl13 sl14 sl15 sl16 : Array (Option Value)} {oc0 kV0 dc0 pm0 cd0 ct0 oc1 kV1 dc1 pm1 cd1 ct1 oc2 kV2 dc2 pm2 cd2 ct2 oc3 kV3 dc3 pm3 cd3 ct3 oc4 kV4 dc4 pm4 cd4 ct4 oc5 kV5 dc5 pm5 cd5 ct5 oc6 kV6 dc6 pm6 cd6 ct6 oc7 kV7 dc7 pm7 cd7 ct7 oc8 kV8 dc8 pm8 cd8 ct8 oc9 kV9 dc9 pm9 cd9 ct9 oc10 kV10 dc10 pm10 cd10 ct10 oc11 kV11 dc11 pm11 cd11 ct11 oc12 kV12 dc12 pm12 cd12 ct12 oc13 kV13 dc13 pm13 cd13 ct13 oc14 kV14 dc14 pm14 cd14 ct14 oc15 kV15 dc15 pm15 cd15 ct15 oc16 kV16 dc16 pm16 cd16 ct16 : Value}
    (a0 : PySem.W.nsIn K mainGlobals "definitions_of" = some (some (.ref f0)))
    (l0 : K.lookup f0 = some ⟨oc0, od0, .func (PySem.W.fnOf "definitions_of" "definitions_of" (defArgs sDefs) (defBody sDefs) (defScope sDefs) .none kV0 dc0 pm0 an0 cd0 ct0), sl0⟩)
    (c0 : PySem.W.codeIn K cd0 "definitions_of" = true)
    (k0 : PySem.W.keepIn K (.ref f0) = true)
    (a1 : PySem.W.nsIn K mainGlobals "pattern_names" = some (some (.ref f1)))
    (l1 : K.lookup f1 = some ⟨oc1, od1, .func (PySem.W.fnOf "pattern_names" "pattern_names" (defArgs sPNames) (defBody sPNames) (defScope sPNames) .none kV1 dc1 pm1 an1 cd1 ct1), sl1⟩)
    (c1 : PySem.W.codeIn K cd1 "pattern_names" = true)
    (k1 : PySem.W.keepIn K (.ref f1) = true)
    (a2 : PySem.W.nsIn K mainGlobals "plain_parts" = some (some (.ref f2)))
    (l2 : K.lookup f2 = some ⟨oc2, od2, .func (PySem.W.fnOf "plain_parts" "plain_parts" (defArgs sPlain) (defBody sPlain) (defScope sPlain) .none kV2 dc2 pm2 an2 cd2 ct2), sl2⟩)
    (c2 : PySem.W.codeIn K cd2 "plain_parts" = true)
    (k2 : PySem.W.keepIn K (.ref f2) = true)
    (a3 : PySem.W.nsIn K mainGlobals "with_names" = some (some (.ref f3)))
    (l3 : K.lookup f3 = some ⟨oc3, od3, .func (PySem.W.fnOf "with_names" "with_names" (defArgs sWith) (defBody sWith) (defScope sWith) .none kV3 dc3 pm3 an3 cd3 ct3), sl3⟩)
    (c3 : PySem.W.codeIn K cd3 "with_names" = true)
    (k3 : PySem.W.keepIn K (.ref f3) = true)
    (a4 : PySem.W.nsIn K mainGlobals "free_values" = some (some (.ref f4)))
    (l4 : K.lookup f4 = some ⟨oc4, od4, .func (PySem.W.fnOf "free_values" "free_values" (defArgs sFree) (defBody sFree) (defScope sFree) .none kV4 dc4 pm4 an4 cd4 ct4), sl4⟩)
    (c4 : PySem.W.codeIn K cd4 "free_values" = true)
    (k4 : PySem.W.keepIn K (.ref f4) = true)
    (a5 : PySem.W.nsIn K mainGlobals "_parts" = some (some (.ref f5)))
    (l5 : K.lookup f5 = some ⟨oc5, od5, .func (PySem.W.fnOf "_parts" "_parts" (defArgs sParts) (defBody sParts) (defScope sParts) .none kV5 dc5 pm5 an5 cd5 ct5), sl5⟩)
    (c5 : PySem.W.codeIn K cd5 "_parts" = true)
    (k5 : PySem.W.keepIn K (.ref f5) = true)
    (a6 : PySem.W.nsIn K mainGlobals "_law_draws" = some (some (.ref f6)))
    (l6 : K.lookup f6 = some ⟨oc6, od6, .func (PySem.W.fnOf "_law_draws" "_law_draws" (defArgs sDraws) (defBody sDraws) (defScope sDraws) .none kV6 dc6 pm6 an6 cd6 ct6), sl6⟩)
    (c6 : PySem.W.codeIn K cd6 "_law_draws" = true)
    (k6 : PySem.W.keepIn K (.ref f6) = true)
    (a7 : PySem.W.nsIn K mainGlobals "_law_reader" = some (some (.ref f7)))
    (l7 : K.lookup f7 = some ⟨oc7, od7, .func (PySem.W.fnOf "_law_reader" "_law_reader" (defArgs sReader) (defBody sReader) (defScope sReader) .none kV7 dc7 pm7 an7 cd7 ct7), sl7⟩)
    (c7 : PySem.W.codeIn K cd7 "_law_reader" = true)
    (k7 : PySem.W.keepIn K (.ref f7) = true)
    (a8 : PySem.W.nsIn K mainGlobals "_law_next" = some (some (.ref f8)))
    (l8 : K.lookup f8 = some ⟨oc8, od8, .func (PySem.W.fnOf "_law_next" "_law_next" (defArgs sNext) (defBody sNext) (defScope sNext) .none kV8 dc8 pm8 an8 cd8 ct8), sl8⟩)
    (c8 : PySem.W.codeIn K cd8 "_law_next" = true)
    (k8 : PySem.W.keepIn K (.ref f8) = true)
    (a9 : PySem.W.nsIn K mainGlobals "_law_name" = some (some (.ref f9)))
    (l9 : K.lookup f9 = some ⟨oc9, od9, .func (PySem.W.fnOf "_law_name" "_law_name" (defArgs sName) (defBody sName) (defScope sName) .none kV9 dc9 pm9 an9 cd9 ct9), sl9⟩)
    (c9 : PySem.W.codeIn K cd9 "_law_name" = true)
    (k9 : PySem.W.keepIn K (.ref f9) = true)
    (a10 : PySem.W.nsIn K mainGlobals "_law_names" = some (some (.ref f10)))
    (l10 : K.lookup f10 = some ⟨oc10, od10, .func (PySem.W.fnOf "_law_names" "_law_names" (defArgs sNames) (defBody sNames) (defScope sNames) .none kV10 dc10 pm10 an10 cd10 ct10), sl10⟩)
    (c10 : PySem.W.codeIn K cd10 "_law_names" = true)
    (k10 : PySem.W.keepIn K (.ref f10) = true)
    (a11 : PySem.W.nsIn K mainGlobals "_law_let" = some (some (.ref f11)))
    (l11 : K.lookup f11 = some ⟨oc11, od11, .func (PySem.W.fnOf "_law_let" "_law_let" (defArgs sLet) (defBody sLet) (defScope sLet) .none kV11 dc11 pm11 an11 cd11 ct11), sl11⟩)
    (c11 : PySem.W.codeIn K cd11 "_law_let" = true)
    (k11 : PySem.W.keepIn K (.ref f11) = true)
    (a12 : PySem.W.nsIn K mainGlobals "_law_case" = some (some (.ref f12)))
    (l12 : K.lookup f12 = some ⟨oc12, od12, .func (PySem.W.fnOf "_law_case" "_law_case" (defArgs sCase) (defBody sCase) (defScope sCase) .none kV12 dc12 pm12 an12 cd12 ct12), sl12⟩)
    (c12 : PySem.W.codeIn K cd12 "_law_case" = true)
    (k12 : PySem.W.keepIn K (.ref f12) = true)
    (a13 : PySem.W.nsIn K mainGlobals "_law_expr" = some (some (.ref f13)))
    (l13 : K.lookup f13 = some ⟨oc13, od13, .func (PySem.W.fnOf "_law_expr" "_law_expr" (defArgs sExpr) (defBody sExpr) (defScope sExpr) .none kV13 dc13 pm13 an13 cd13 ct13), sl13⟩)
    (c13 : PySem.W.codeIn K cd13 "_law_expr" = true)
    (k13 : PySem.W.keepIn K (.ref f13) = true)
    (a14 : PySem.W.nsIn K mainGlobals "_law_free" = some (some (.ref f14)))
    (l14 : K.lookup f14 = some ⟨oc14, od14, .func (PySem.W.fnOf "_law_free" "_law_free" (defArgs sLFree) (defBody sLFree) (defScope sLFree) .none kV14 dc14 pm14 an14 cd14 ct14), sl14⟩)
    (c14 : PySem.W.codeIn K cd14 "_law_free" = true)
    (k14 : PySem.W.keepIn K (.ref f14) = true)
    (a15 : PySem.W.nsIn K mainGlobals "_law_once" = some (some (.ref f15)))
    (l15 : K.lookup f15 = some ⟨oc15, od15, .func (PySem.W.fnOf "_law_once" "_law_once" (defArgs sOnce) (defBody sOnce) (defScope sOnce) .none kV15 dc15 pm15 an15 cd15 ct15), sl15⟩)
    (c15 : PySem.W.codeIn K cd15 "_law_once" = true)
    (k15 : PySem.W.keepIn K (.ref f15) = true)
    (a16 : PySem.W.nsIn K mainGlobals "law" = some (some (.ref f16)))
    (l16 : K.lookup f16 = some ⟨oc16, od16, .func (PySem.W.fnOf "law" "law" (defArgs sLaw) (defBody sLaw) (defScope sLaw) .none kV16 dc16 pm16 an16 cd16 ct16), sl16⟩)
    (c16 : PySem.W.codeIn K cd16 "law" = true)
    (k16 : PySem.W.keepIn K (.ref f16) = true)
    (zlen : PySem.W.nsIn K mainGlobals "len" = some none)
    (zmin : PySem.W.nsIn K mainGlobals "min" = some none)
    (zint : PySem.W.nsIn K mainGlobals "int" = some none)
    (zrange : PySem.W.nsIn K mainGlobals "range" = some none)
    (zabs : PySem.W.nsIn K mainGlobals "abs" = some none)
    (ztuple : PySem.W.nsIn K mainGlobals "tuple" = some none)
    (zlist : PySem.W.nsIn K mainGlobals "list" = some none)
    (zdict : PySem.W.nsIn K mainGlobals "dict" = some none)
    (zsorted : PySem.W.nsIn K mainGlobals "sorted" = some none)
    (zisinstance : PySem.W.nsIn K mainGlobals "isinstance" = some none) :
    ∃ fd : FuncData, (∀ (s : Shared) (v : Value), BindsTo s fd ⟨[v], []⟩ [("script", v)]) ∧ ∀ base : Heap, K.In base → base.Ns mainGlobals mg → FnOk l.prog w K mg base CX0 16 fa fd ["script"] (spLaw K) := by
  have e := hfa.symm.trans (PySem.W.mg_of X G a16)
  cases e
  have nlen := PySem.W.mg_none_of X G zlen
  have nmin := PySem.W.mg_none_of X G zmin
  have nint := PySem.W.mg_none_of X G zint
  have nrange := PySem.W.mg_none_of X G zrange
  have nabs := PySem.W.mg_none_of X G zabs
  have ntuple := PySem.W.mg_none_of X G ztuple
  have nlist := PySem.W.mg_none_of X G zlist
  have ndict := PySem.W.mg_none_of X G zdict
  have nsorted := PySem.W.mg_none_of X G zsorted
  have nisinstance := PySem.W.mg_none_of X G zisinstance
  have FDefs := fun_mk (st := sDefs) l0 c0 k0
  have bDefs := FDefs.binds (ps := ["declarations"]) fun _ _ _ _ _ _ us hl => match us, hl with | [_], _ => rfl
  have mDefs := PySem.W.mg_of X G a0
  have FPNames := fun_mk (st := sPNames) l1 c1 k1
  have bPNames := FPNames.binds (ps := ["pattern"]) fun _ _ _ _ _ _ us hl => match us, hl with | [_], _ => rfl
  have mPNames := PySem.W.mg_of X G a1
  have FPlain := fun_mk (st := sPlain) l2 c2 k2
  have bPlain := FPlain.binds (ps := ["tree"]) fun _ _ _ _ _ _ us hl => match us, hl with | [_], _ => rfl
  have mPlain := PySem.W.mg_of X G a2
  have FWith := fun_mk (st := sWith) l3 c3 k3
  have bWith := FWith.binds (ps := ["bound", "names"]) fun _ _ _ _ _ _ us hl => match us, hl with | [_, _], _ => rfl
  have mWith := PySem.W.mg_of X G a3
  have FFree := fun_mk (st := sFree) l4 c4 k4
  have bFree := FFree.binds (ps := ["expression"]) fun _ _ _ _ _ _ us hl => match us, hl with | [_], _ => rfl
  have mFree := PySem.W.mg_of X G a4
  have FParts := fun_mk (st := sParts) l5 c5 k5
  have bParts := FParts.binds (ps := ["tree", "bound"]) fun _ _ _ _ _ _ us hl => match us, hl with | [_, _], _ => rfl
  have mParts := PySem.W.mg_of X G a5
  have FDraws := fun_mk (st := sDraws) l6 c6 k6
  have bDraws := FDraws.binds (ps := ["script"]) fun _ _ _ _ _ _ us hl => match us, hl with | [_], _ => rfl
  have mDraws := PySem.W.mg_of X G a6
  have FReader := fun_mk (st := sReader) l7 c7 k7
  have bReader := FReader.binds (ps := ["script"]) fun _ _ _ _ _ _ us hl => match us, hl with | [_], _ => rfl
  have mReader := PySem.W.mg_of X G a7
  have FNext := fun_mk (st := sNext) l8 c8 k8
  have bNext := FNext.binds (ps := ["draws", "many"]) fun _ _ _ _ _ _ us hl => match us, hl with | [_, _], _ => rfl
  have mNext := PySem.W.mg_of X G a8
  have FName := fun_mk (st := sName) l9 c9 k9
  have bName := FName.binds (ps := ["draws"]) fun _ _ _ _ _ _ us hl => match us, hl with | [_], _ => rfl
  have mName := PySem.W.mg_of X G a9
  have FNames := fun_mk (st := sNames) l10 c10 k10
  have bNames := FNames.binds (ps := ["draws"]) fun _ _ _ _ _ _ us hl => match us, hl with | [_], _ => rfl
  have mNames := PySem.W.mg_of X G a10
  have FLet := fun_mk (st := sLet) l11 c11 k11
  have bLet := FLet.binds (ps := ["draws", "depth"]) fun _ _ _ _ _ _ us hl => match us, hl with | [_, _], _ => rfl
  have mLet := PySem.W.mg_of X G a11
  have FCase := fun_mk (st := sCase) l12 c12 k12
  have bCase := FCase.binds (ps := ["draws", "depth"]) fun _ _ _ _ _ _ us hl => match us, hl with | [_, _], _ => rfl
  have mCase := PySem.W.mg_of X G a12
  have FExpr := fun_mk (st := sExpr) l13 c13 k13
  have bExpr := FExpr.binds (ps := ["draws", "depth"]) fun _ _ _ _ _ _ us hl => match us, hl with | [_, _], _ => rfl
  have mExpr := PySem.W.mg_of X G a13
  have FLFree := fun_mk (st := sLFree) l14 c14 k14
  have bLFree := FLFree.binds (ps := ["expression", "hidden"]) fun _ _ _ _ _ _ us hl => match us, hl with | [_, _], _ => rfl
  have mLFree := PySem.W.mg_of X G a14
  have FOnce := fun_mk (st := sOnce) l15 c15 k15
  have bOnce := FOnce.binds (ps := ["names"]) fun _ _ _ _ _ _ us hl => match us, hl with | [_], _ => rfl
  have mOnce := PySem.W.mg_of X G a15
  have FLaw := fun_mk (st := sLaw) l16 c16 k16
  have bLaw := FLaw.binds (ps := ["script"]) fun _ _ _ _ _ _ us hl => match us, hl with | [_], _ => rfl
  have mLaw := PySem.W.mg_of X G a16
  refine ⟨PySem.W.fnOf "law" "law" (defArgs sLaw) (defBody sLaw) (defScope sLaw) .none kV16 dc16 pm16 an16 cd16 ct16, fun s v => .of_eq rfl, fun base _ _ => ?_⟩
  have TD : TxtD mg := ⟨nlen, nmin, nint, nrange, nabs⟩
  have TP : TxtP mg := ⟨ndict, ntuple, nsorted, nlist⟩
  have TF : TxtF mg := ⟨nrange, ntuple⟩
  have TL : TxtL mg := ⟨nlen, nlist, ntuple, nsorted, nisinstance⟩
  have CwithT := c_withT (P := l.prog) (w := w) (base := base) TP FWith bWith mWith
  have CwithL := c_withL (P := l.prog) (w := w) (base := base) TP FWith bWith mWith
  have Cdefs := c_defs (P := l.prog) (w := w) (base := base) FDefs bDefs mDefs
  have Cpnames := c_pnames (P := l.prog) (w := w) (base := base) FPNames bPNames mPNames
  have Cplain := c_plain (P := l.prog) (w := w) (base := base) FPlain bPlain mPlain
  have Cparts := c_parts (P := l.prog) (w := w) (base := base) CwithT CwithL Cdefs Cpnames Cplain FParts bParts mParts
  have Cfree := c_free (P := l.prog) (w := w) (base := base) TP Cparts FFree bFree mFree
  have Cdraws := c_draws (P := l.prog) (w := w) (base := base) TD FDraws bDraws mDraws
  have Creader := c_reader (P := l.prog) (w := w) (base := base) TD Cdraws FReader bReader mReader
  have Cnext := c_next (P := l.prog) (w := w) (base := base) TD FNext bNext mNext
  have Cname := c_name (P := l.prog) (w := w) (base := base) Cnext FName bName mName
  have Cnames := c_names (P := l.prog) (w := w) (base := base) TF Cnext FNames bNames mNames
  have Cexpr := c_expr (P := l.prog) (w := w) (base := base) TF Cnext Cname Cnames FExpr bExpr mExpr FLet bLet mLet FCase bCase mCase 6
  have Clfree := c_lfree (P := l.prog) (w := w) (base := base) TP FLFree bLFree mLFree 6
  have Conce := c_once (P := l.prog) (w := w) (base := base) TL FOnce bOnce mOnce
  exact c_law TL Creader Cnext Cexpr Cfree Clfree Conce FLaw
theorem walk {l : PySem.W.OpenLaw} {q : Program} {loose : List Str} {XP : (Str → Option Value) → Heap → Prop} {YP : World → Heap → Prop} {d : DefRec} {K : Params → PySem.W.Frag} (hn : l.most = some 63) (hdf : d.params.defaults = [])
    (hY : ∀ (w : World) (h : Heap), YP w h → (K w.params).In h)
    (F : ∀ (w : World) (mg : Str → Option Value) (fa : Addr) (h : Heap), (K w.params).In h → h.Ns mainGlobals mg → mg d.name = some (.ref fa) →
      ∃ fd : FuncData, (∀ (s : Shared) (u : Value), BindsTo s fd ⟨[u], []⟩ [("script", u)]) ∧ ∀ base : Heap, (K w.params).In base → base.Ns mainGlobals mg → FnOk l.prog w (K w.params) mg base CX0 16 fa fd ["script"] (spLaw (K w.params))) :
    PySem.W.WalkO q loose XP YP l.row.toRowW d [] (fun f vs => PySem.call f vs) :=
  L2.walk_of (n := 63) (k := 16) (x := "script") (CX := fun _ => CX0) (sp := fun w => spLaw (K w.params)) hn (by decide) hdf ⟨rfl, by decide, by decide⟩ hY F (fun _ _ a ns hl _ hS => ⟨a, ns, rfl, hS, hl, fun _ => rfl⟩) fun _ _ _ _ _ z => z
end Toy
open PySem PySem.W PyProof.Rows
set_option maxRecDepth 100000 in
set_option maxHeartbeats 0 in
theorem PySem.Challenge.cw_needonce_k20_free_values_holds : PySem.Challenge.rw_needonce_k20_free_values.Holds := by
  w_on; o_law; k_head; (case hw => w_witness2)
  k_fill
  refine Toy.walk (l := PySem.Challenge.rw_needonce_k20_free_values) rfl rfl (fun w h Y => PySem.W.kIn_of Y) ?F
  case F =>
    intro w mg fa h KX G hmg
    refine' Toy.all_mk KX G hmg ?a0 ?l0 ?c0 ?k0 ?a1 ?l1 ?c1 ?k1 ?a2 ?l2 ?c2 ?k2 ?a3 ?l3 ?c3 ?k3 ?a4 ?l4 ?c4 ?k4 ?a5 ?l5 ?c5 ?k5 ?a6 ?l6 ?c6 ?k6 ?a7 ?l7 ?c7 ?k7 ?a8 ?l8 ?c8 ?k8 ?a9 ?l9 ?c9 ?k9 ?a10 ?l10 ?c10 ?k10 ?a11 ?l11 ?c11 ?k11 ?a12 ?l12 ?c12 ?k12 ?a13 ?l13 ?c13 ?k13 ?a14 ?l14 ?c14 ?k14 ?a15 ?l15 ?c15 ?k15 ?a16 ?l16 ?c16 ?k16 ?zlen ?zmin ?zint ?zrange ?zabs ?ztuple ?zlist ?zdict ?zsorted ?zisinstance
    (case a0 => k_is)
    (case l0 => k_is)
    (case c0 => k_is)
    (case k0 => k_is)
    (case a1 => k_is)
    (case l1 => k_is)
    (case c1 => k_is)
    (case k1 => k_is)
    (case a2 => k_is)
    (case l2 => k_is)
    (case c2 => k_is)
    (case k2 => k_is)
    (case a3 => k_is)
    (case l3 => k_is)
    (case c3 => k_is)
    (case k3 => k_is)
    (case a4 => k_is)
    (case l4 => k_is)
    (case c4 => k_is)
    (case k4 => k_is)
    (case a5 => k_is)
    (case l5 => k_is)
    (case c5 => k_is)
    (case k5 => k_is)
    (case a6 => k_is)
    (case l6 => k_is)
    (case c6 => k_is)
    (case k6 => k_is)
    (case a7 => k_is)
    (case l7 => k_is)
    (case c7 => k_is)
    (case k7 => k_is)
    (case a8 => k_is)
    (case l8 => k_is)
    (case c8 => k_is)
    (case k8 => k_is)
    (case a9 => k_is)
    (case l9 => k_is)
    (case c9 => k_is)
    (case k9 => k_is)
    (case a10 => k_is)
    (case l10 => k_is)
    (case c10 => k_is)
    (case k10 => k_is)
    (case a11 => k_is)
    (case l11 => k_is)
    (case c11 => k_is)
    (case k11 => k_is)
    (case a12 => k_is)
    (case l12 => k_is)
    (case c12 => k_is)
    (case k12 => k_is)
    (case a13 => k_is)
    (case l13 => k_is)
    (case c13 => k_is)
    (case k13 => k_is)
    (case a14 => k_is)
    (case l14 => k_is)
    (case c14 => k_is)
    (case k14 => k_is)
    (case a15 => k_is)
    (case l15 => k_is)
    (case c15 => k_is)
    (case k15 => k_is)
    (case a16 => k_is)
    (case l16 => k_is)
    (case c16 => k_is)
    (case k16 => k_is)
    (case zlen => k_is)
    (case zmin => k_is)
    (case zint => k_is)
    (case zrange => k_is)
    (case zabs => k_is)
    (case ztuple => k_is)
    (case zlist => k_is)
    (case zdict => k_is)
    (case zsorted => k_is)
    (case zisinstance => k_is)

