import PyProof.Rows.All
import Wide.All
import OpenK.AllK
import Wide.FinOn
import HandS.ForMost
import HandS.Codes
import HandS.IsInst
import HandS.Conv
import HandS.StrMore
import KE.OsScanText
import KE.KStrWords
import KE.KxText
import PySem.Challenge.RW_needonce_k23_parts_of_types
import HandS.TupAny
import KE.KRevSl
import HandS.More
import HandS.Star
import HandS.DictComp
import HandS.FStr
import HandS.Rev
import HandS.TupLe
set_option Elab.async false
set_option maxRecDepth 100000
set_option maxHeartbeats 4000000
/-! Part A: how defs are called, the drawing of numbers from the script. -/
namespace Toy
open PySem L2
open PyProof.Rows (envOfC)
def topS (i : Nat) : Stmt := PySem.Challenge.pw_needonce_k23_parts_of_types.main.body.getD i (.Pass ⟨0, 0, 0, 0⟩)
theorem boot_min : bootBuiltins "min" = some (.builtin "min") := by decide +kernel
theorem boot_isinstance : bootBuiltins "isinstance" = some (.builtin "isinstance") := by decide +kernel
theorem boot_abs : bootBuiltins "abs" = some (.builtin "abs") := by decide +kernel
theorem boot_int : bootBuiltins "int" = some (.type "int") := by decide +kernel
theorem boot_list : bootBuiltins "list" = some (.type "list") := by decide +kernel
/-- a written row of texts: what it is -/
def tStrs (zs : List Str) : TA := fun _ H Q => Q (zs.map V.str) H
def strE : Expr → Option Str
  | .Constant (.str z) _ _ => some z
  | _ => none
theorem strE_is {e : Expr} {z : Str} (h : strE e = some z) : ∃ j pos, e = .Constant (.str z) j pos := by
  unfold strE at h
  split at h
  · cases h
    exact ⟨_, _, rfl⟩
  · cases h
/-- a written row of texts -/
theorem pa_strs {X : Cx} : ∀ {es : List Expr} {zs : List Str}, es.map strE = zs.map some → PA X es (tStrs zs)
  | [], [], _ => pa_nil
  | [], _ :: _, h => by cases h
  | _ :: _, [], h => by cases h
  | e :: es, z :: zs, h => by
    rw [List.map_cons, List.map_cons] at h
    obtain ⟨h1, h2⟩ := List.cons.inj h
    obtain ⟨j, pos, rfl⟩ := strE_is h1
    exact pa_cons pe_str (pa_strs h2)
theorem strs_read {zs : List Str} {σ : L2.St} {H : Hp} {Q : List V → Hp → Prop} (h : Q (zs.map V.str) H) : tStrs zs σ H Q := h
/-- what the proofs ask of the module's names -/
structure TxtD (mg : Str → Option Value) : Prop where
  zlen : mg "len" = none
  zmin : mg "min" = none
  zint : mg "int" = none
  zrange : mg "range" = none
  zabs : mg "abs" = none
section
variable {P : Program} {w : World} {K : PySem.W.Frag} {mg : Str → Option Value} {base : Heap} 
/-- a def as one that may be called by its name -/
theorem cal_of {x : Str} {st : Stmt} {f : Addr} {fd : FuncData} {N ps : List Str} {k : Nat} {sp : Sp} (F : Fun K x x st f fd) (hm : mg x = some (.ref f)) (b : Binds K fd ps []) (S : FnScope N ps (defScope st)) (len : ∀ vs H Q E, sp vs H Q E → vs.length = ps.length)
    (hbody : ∀ (cdv : Value) (A : Around) (outer : List Env) (s : Shared) (H : Hp) (vs : List V) (Q : VK) (E : XK), Room k (A.deeper (envOfC x (defScope st) s.heap.objs.size f cdv)) → sp vs H Q E →
      ∃ t, PSs (cxOf CX0 P w K mg base N x (defScope st) f cdv A outer s H E).nox (defBody st) t ∧ t { nx := fun _ H' => Q .non H', rt := Q } (start N vs) H) : C8.Cal P w K mg base (k + 1) x sp [] :=
  ⟨f, fd, ps, [], F.ok S len hbody, hm, F.kp, b, .nil⟩
theorem same_new {H : Hp} {p : Addr} (h : H p = none) (o : HO) : Same H (upd H p o) := fun b u q => by rw [upd_ne (ne_of_none q h)]; exact q
theorem same_upd {H H' : Hp} {p : Addr} (h : H p = none) (s : Same H H') (o : HO) : Same H (upd H' p o) := fun b u q => by rw [upd_ne (ne_of_none q h)]; exact s b u q
theorem szl {n : Nat} (h : n ≤ 100000) : n < sizeLine := Nat.lt_of_le_of_lt h (by decide)
theorem at_ok {α : Type} {xs : List α} {k : Nat} (h : k < xs.length) : atI xs (0 + (k : Int)) = some xs[k] := by
  rw [Int.zero_add]
  exact atI_nat (List.getElem?_eq_getElem h)
theorem at_int {ns : List Int} {i : Int} (h0 : 0 ≤ i) (h1 : i < (ns.length : Int)) : ∃ v : Int, atI (ns.map V.int) i = some (.int v) := by
  have hk : i.toNat < ns.length := by omega
  refine ⟨ns[i.toNat], ?_⟩
  have q : atI (ns.map V.int) ((i.toNat : Nat) : Int) = some (.int ns[i.toNat]) := atI_nat (by rw [List.getElem?_map, List.getElem?_eq_getElem hk] <;> rfl)
  rw [show ((i.toNat : Nat) : Int) = i by omega] at q
  exact q

/-! ### the draws of a script -/
def dk3 (r : Addr) (i z : Int) : List (Key × V) := [(Sum.inr "row", .ref r), (Sum.inr "at", .int i), (Sum.inr "seed", .int z)]
theorem nk_ra : ¬ (Sum.inr ("row" : Str) : Key) = Sum.inr ("at" : Str) := by decide +kernel
theorem nk_rs : ¬ (Sum.inr ("row" : Str) : Key) = Sum.inr ("seed" : Str) := by decide +kernel
theorem nk_as : ¬ (Sum.inr ("at" : Str) : Key) = Sum.inr ("seed" : Str) := by decide +kernel
theorem nk_sa : ¬ (Sum.inr ("seed" : Str) : Key) = Sum.inr ("at" : Str) := by decide +kernel
theorem dk_row (r : Addr) (i z : Int) : valV (dk3 r i z) (Sum.inr "row" : Key) = some (.ref r) := valV_pos rfl
theorem dk_at (r : Addr) (i z : Int) : valV (dk3 r i z) (Sum.inr "at" : Key) = some (.int i) := (valV_neg nk_ra).trans (valV_pos rfl)
theorem dk_seed (r : Addr) (i z : Int) : valV (dk3 r i z) (Sum.inr "seed" : Key) = some (.int z) := (valV_neg nk_rs).trans ((valV_neg nk_as).trans (valV_pos rfl))
theorem dk_put (r : Addr) (i z j : Int) : putK (dk3 r i z) (Sum.inr "at" : Key) (.int j) = dk3 r j z := by
  have h1 : ¬ ("row" : Str) = "at" := by decide +kernel
  have h2 : ¬ ("seed" : Str) = "at" := by decide +kernel
  simp [putK, dk3, h1, h2]
theorem dk_merge (r : Addr) (z : Int) : mergeK [] [(Sum.inr "row", .ref r), (Sum.inr "at", .int 0), (Sum.inr "seed", .int z)] = dk3 r 0 z := by
  have h1 : ¬ ("row" : Str) = "at" := by decide +kernel
  have h2 : ¬ ("row" : Str) = "seed" := by decide +kernel
  have h3 : ¬ ("at" : Str) = "seed" := by decide +kernel
  simp [mergeK, putK, dk3, h1, h2, h3]
/-- a reader of draws stands at p -/
def DrawsAt (H : Hp) (p r : Addr) : Prop := ∃ (row : List Int) (i : Nat) (z : Int), H p = some (.dK (dk3 r (i : Int) z)) ∧ H r = some (.lst (row.map V.int))
theorem DrawsAt.same {H H' : Hp} {p r : Addr} (d : DrawsAt H p r) (s : Same H H') : DrawsAt H' p r := by
  obtain ⟨row, i, z, h1, h2⟩ := d
  exact ⟨row, i, z, s _ _ h1, s _ _ h2⟩
/-- all but p stays -/
def Keep (p : Addr) (H H' : Hp) : Prop := ∀ b o, b ≠ p → H b = some o → H' b = some o
abbrev sNext : Stmt := topS 17
theorem scNext : FnScope ["draws", "many", "at", "mixed"] ["draws", "many"] (defScope sNext) := ⟨rfl, rfl, rfl, by decide +kernel, rfl, by decide +kernel, by decide +kernel⟩
/-- some number below m; the reader moves on -/
def spNext : Sp := fun vs H Q _ => ∃ (p r : Addr) (m : Int), vs = [.ref p, .int m] ∧ 0 < m ∧ DrawsAt H p r ∧ ∀ (n : Int) (H' : Hp), 0 ≤ n → n < m → Keep p H H' → DrawsAt H' p r → Q (.int n) H'
theorem c_next {f : Addr} {fd : FuncData} (T : TxtD mg) (F : Fun K "_law_next" "_law_next" sNext f fd) (b : Binds K fd ["draws", "many"] []) (hm : mg "_law_next" = some (.ref f)) : C8.Cal P w K mg base 2 "_law_next" spNext [] := by
  refine cal_of F hm b scNext (fun vs H Q E h => ?_) (fun cdv A outer s H vs Q E hr h => ?_)
  · obtain ⟨p, r, m, rfl, _⟩ := h
    rfl
  obtain ⟨p, r, m, rfl, hm0, ⟨row, i, z, hp, hrow⟩, q⟩ := h
  have hu := hu_of hr
  have npr : r ≠ p := ne_of hrow hp (by intro z; cases z)
  refine ⟨_, (pss_cons (ps_set (i := 2) scNext.nd rfl (Or.inl rfl) (pe_dget hu (pv 0) pe_str (fun _ _ => rfl)))
    (pss_cons (ps_dput hu (pv 0) pe_str (pe_op op_add (pv 2) pe_int) rfl)
    (pss_cons (ps_if (pt_cmpR op_lt (pv 2) (pe_callB call_len_seq rfl T.zlen PySem.boot_len (pa_cons (pe_dget hu (pv 0) pe_str (fun _ _ => rfl)) pa_nil)) (nomark _))
      (pss_one (ps_ret (pe_op op_mod (pe_ix ix_list (pe_dget hu (pv 0) pe_str (fun _ _ => rfl)) (pv 2) (fun _ _ => rfl)) (pv 1))))
      pss_nil)
    (pss_cons (ps_set (i := 3) scNext.nd rfl (Or.inl rfl) (pe_op op_mod (pe_callTy call_int1 rfl T.zint boot_int (pa_cons (pe_op op_mul (pe_op op_add (pe_op op_add (pe_dget hu (pv 0) pe_str (fun _ _ => rfl)) (pe_op op_mul pe_int (pv 2))) pe_int) pe_int) pa_nil)) pe_int))
    (pss_one (ps_ret (pe_op op_mod (pe_op op_fdiv (pe_op op_mod (pe_callTy call_int1 rfl T.zint boot_int (pa_cons (pe_op op_add (pe_op op_mul (pv 3) (pv 3)) (pv 2)) pa_nil)) pe_int) pe_int) (pv 1)))))))), ?_⟩
  refine ⟨_, rfl, p, _, rfl, (dk_at r i z ▸ DGet.k (k := Sum.inr "at") hp), ?_⟩
  refine ⟨_, rfl, _, _, rfl, rfl, _, rfl, p, _, rfl, DPut.k (k := Sum.inr "at") hp (by show 3 < sizeLine; decide), ?_⟩
  rw [dk_put]
  have hp2 : upd H p (.dK (dk3 r ((i : Int) + 1) z)) p = some (.dK (dk3 r ((i : Int) + 1) z)) := upd_same
  have hr2 : upd H p (.dK (dk3 r ((i : Int) + 1) z)) r = some (.lst (row.map V.int)) := by rw [upd_ne npr]; exact hrow
  have fin : ∀ n : Int, 0 ≤ n → n < m → Q (.int n) (upd H p (.dK (dk3 r ((i : Int) + 1) z))) := fun n h0 h1 =>
    q n _ h0 h1 (fun b o hb e => by rw [upd_ne hb]; exact e) ⟨row, i + 1, z, by rw [upd_same]; rfl, hr2⟩
  refine ⟨_, rfl, _, rfl, p, _, rfl, (dk_row r _ z ▸ DGet.k (k := Sum.inr "row") hp2), r, _, rfl, .inl (SqL.of hr2), _, _, rfl, rfl, _, rfl, ?_⟩
  refine ite2 (fun c => ?_) (fun c => ?_)
  · have c' : (i : Int) < (((row.map V.int).length : Nat) : Int) := of_decide_eq_true c
    rw [List.length_map] at c'
    obtain ⟨v, hv⟩ := at_int (ns := row) (i := (i : Int)) (by omega) c'
    refine ⟨_, rfl, p, _, rfl, (dk_row r _ z ▸ DGet.k (k := Sum.inr "row") hp2), _, rfl, r, _, _, _, rfl, rfl, SqL.of hr2, hv, ?_⟩
    refine ⟨_, rfl, _, _, rfl, rfl, hm0, ?_⟩
    exact fin _ (Int.emod_nonneg _ (by omega)) (Int.emod_lt_of_pos _ hm0)
  · refine ⟨_, rfl, p, _, rfl, (dk_seed r _ z ▸ DGet.k (k := Sum.inr "seed") hp2), _, rfl, _, _, rfl, rfl, .inl (by decide), _, _, rfl, rfl, _, _, rfl, rfl, _, _, rfl, rfl, .inr (by decide), .inl ⟨_, rfl, _, _, rfl, rfl, (show (0 : Int) < 2147483647 by decide), ?_⟩⟩
    refine ⟨_, rfl, _, rfl, _, _, rfl, rfl, .inl ?_, _, rfl, _, _, rfl, rfl, .inl ⟨_, rfl, _, _, rfl, rfl, (show (0 : Int) < 2147483629 by decide), _, _, rfl, rfl, ⟨by decide, by decide⟩, _, rfl, _, _, rfl, rfl, hm0, ?_⟩⟩
    · omega
    · exact fin _ (Int.emod_nonneg _ (by omega)) (Int.emod_lt_of_pos _ hm0)
abbrev sDraws : Stmt := topS 15
theorem scDraws : FnScope ["script", "draws", "k", "cell", "turn", "mixed"] ["script"] (defScope sDraws) := ⟨rfl, rfl, rfl, by decide +kernel, rfl, by decide +kernel, by decide +kernel⟩
/-- some row of whole numbers, not longer than 1260 -/
def spDraws (K : PySem.W.Frag) : Sp := fun vs H Q _ => ∃ (a : Addr) (ns : List Int), vs = [.ref a] ∧ SqL K H a (ns.map V.int) ∧ ns.length ≤ 63 ∧ ∀ (r : Addr) (row : List Int) (H' : Hp), H r = none → Same H H' → row.length ≤ 1260 → H' r = some (.lst (row.map V.int)) → Q (.ref r) H'
theorem c_draws {f : Addr} {fd : FuncData} (T : TxtD mg) (F : Fun K "_law_draws" "_law_draws" sDraws f fd) (b : Binds K fd ["script"] []) (hm : mg "_law_draws" = some (.ref f)) : C8.Cal P w K mg base 1 "_law_draws" (spDraws K) [] := by
  refine cal_of F hm b scDraws (fun vs H Q E h => ?_) (fun cdv A outer s H vs Q E hr h => ?_)
  · obtain ⟨a, ns, rfl, _⟩ := h
    rfl
  obtain ⟨a, ns, rfl, hS, h63, q⟩ := h
  refine ⟨_, (pss_cons (ps_set (i := 1) scDraws.nd rfl (Or.inl rfl) (pe_lst pa_nil))
    (pss_cons (ps_for PassesOwn.never rfl (pi_range1 rfl T.zrange (pa_cons (pe_callB (call_min2 rfl) rfl T.zmin boot_min (pa_cons (pe_callB call_len_seq rfl T.zlen PySem.boot_len (pa_cons (pv 0) pa_nil)) (pa_cons pe_int pa_nil))) pa_nil)) (pg_name (i := 2) scDraws.nd rfl (Or.inl rfl))
      (pss_cons (ps_set (i := 3) scDraws.nd rfl (Or.inl rfl) (pe_callB call_abs rfl T.zabs boot_abs (pa_cons (pe_ix ix_list (pv 0) (pv 2) (fun _ _ => rfl)) pa_nil)))
    (pss_one (ps_if (pt_cmpR op_ge (pv 3) (pe_op op_pow pe_int pe_int) (nomark _))
      (pss_one (ps_for PassesOwn.never rfl (pi_range1 rfl T.zrange (pa_cons pe_int pa_nil)) (pg_name (i := 4) scDraws.nd rfl (Or.inl rfl))
      (pss_one (ps_if (pt_cmpR op_gt (pv 3) pe_int (nomark _))
      (pss_cons (ps_expr (pe_bm PySem.F.plainAttrs_list PySem.F.slot_list_append PySem.F.type_list_append mt_append (pv 1) (pa_cons (pe_op op_mod (pv 3) pe_int) pa_nil)))
    (pss_one (ps_set (i := 3) scDraws.nd rfl (Or.inl rfl) (pe_op op_fdiv (pv 3) pe_int))))
      pss_nil))))
      (pss_cons (ps_set (i := 5) scDraws.nd rfl (Or.inl rfl) (pe_op op_mod (pe_callTy call_int1 rfl T.zint boot_int (pa_cons (pe_op op_add (pe_op op_add (pe_op op_mul (pe_ix ix_list (pv 0) (pv 2) (fun _ _ => rfl)) pe_int) (pe_op op_mul (pv 2) pe_int)) pe_int) pa_nil)) pe_int))
    (pss_one (ps_for PassesOwn.never rfl (pi_range1 rfl T.zrange (pa_cons pe_int pa_nil)) (pg_name (i := 4) scDraws.nd rfl (Or.inl rfl))
      (pss_cons (ps_set (i := 5) scDraws.nd rfl (Or.inl rfl) (pe_op op_mod (pe_callTy call_int1 rfl T.zint boot_int (pa_cons (pe_op op_add (pe_op op_add (pe_op op_mul (pv 5) (pv 5)) (pe_op op_mul (pv 4) pe_int)) pe_int) pa_nil)) pe_int))
    (pss_one (ps_expr (pe_bm PySem.F.plainAttrs_list PySem.F.slot_list_append PySem.F.type_list_append mt_append (pv 1) (pa_cons (pe_op op_mod (pv 5) pe_int) pa_nil))))))))))))
    (pss_one (ps_ret (pv 1))))), ?_⟩
  refine ⟨(by show 0 ≤ sizeLine; decide), fun r hr0 => ?_⟩
  refine ⟨_, rfl, a, _, rfl, .inl ((same_new hr0 _).seq hS), _, _, rfl, _, rfl, ?_, ?_, for_range
    (fun (k : Nat) σ H2 => ∃ (kk c t x : Option V) (row : List Int), σ = [some (.ref a), some (.ref r), kk, c, t, x] ∧ Same H H2 ∧ H2 r = some (.lst (row.map V.int)) ∧ row.length ≤ 20 * k)
    ⟨none, none, none, none, [], rfl, same_new hr0 _, upd_same, by simp⟩ ?_ ?_⟩
  · split <;> omega
  · rw [List.length_map]
    split <;> omega
  · rintro k σ H2 hk ⟨kk, c, t, x, row, rfl, s2, hrow, hl⟩
    have hk' : (k : Int) < (ns.length : Int) := by
      rw [List.length_map] at hk
      split at hk <;> omega
    obtain ⟨v, hv⟩ := at_int (ns := ns) (i := 0 + (k : Int)) (by omega) (by omega)
    refine ⟨_, rfl, _, rfl, a, _, _, _, rfl, rfl, s2.seq hS, hv, _, rfl, ?_⟩
    refine ⟨_, rfl, _, _, rfl, rfl, ⟨by decide, by decide, by decide⟩, _, _, rfl, rfl, _, rfl, ?_⟩
    refine ite2 (fun _ => ?_) (fun _ => ?_)
    · refine ⟨20, rfl, by decide, by decide, for_range (fun (j : Nat) σ H3 => ∃ (t x : Option V) (c : Int) (row : List Int), σ = [some (.ref a), some (.ref r), some (.int (0 + (k : Int))), some (.int c), t, x] ∧ Same H H3 ∧ H3 r = some (.lst (row.map V.int)) ∧ row.length ≤ 20 * k + j)
        ⟨_, _, _, row, rfl, s2, hrow, by omega⟩ ?_ ?_⟩
      · rintro j σ H3 hj ⟨t, x, c, row, rfl, s3, hrow, hl⟩
        refine ⟨_, rfl, _, _, rfl, rfl, _, rfl, ?_⟩
        refine ite2 (fun _ => ?_) (fun _ => ?_)
        · refine ⟨_, rfl, .inl ⟨rfl, _, SqL.of hrow⟩, _, rfl, _, _, rfl, rfl, (show (0 : Int) < 1000 by decide), r, _, _, rfl, rfl, hrow, szl (by rw [List.length_map]; omega), ?_⟩
          refine ⟨_, rfl, _, _, rfl, rfl, ⟨by decide, by decide⟩, ?_⟩
          refine ⟨_, _, _, row ++ [c % 1000], rfl, same_upd hr0 s3 _, ?_, ?_⟩
          · rw [upd_same, List.map_append]
            rfl
          · rw [List.length_append]
            show row.length + 1 ≤ _
            omega
        · exact ⟨_, _, _, row, rfl, s3, hrow, by omega⟩
      · rintro σ H3 ⟨t, x, c, row, rfl, s3, hrow, hl⟩
        exact ⟨_, _, _, _, row, rfl, s3, hrow, by omega⟩
    · refine ⟨_, rfl, _, rfl, a, _, _, _, rfl, rfl, s2.seq hS, hv, _, _, rfl, rfl, .inr (by decide), _, rfl, _, _, rfl, rfl, .inr (by decide), _, _, rfl, rfl, _, _, rfl, rfl, .inl ⟨_, rfl, _, _, rfl, rfl, (show (0 : Int) < 2147483647 by decide), ?_⟩⟩
      refine ⟨3, rfl, by decide, by decide, for_range (fun (j : Nat) σ H3 => ∃ (t : Option V) (c x : Int) (row : List Int), (0 ≤ x ∧ x < 2147483648) ∧ σ = [some (.ref a), some (.ref r), some (.int (0 + (k : Int))), some (.int c), t, some (.int x)] ∧ Same H H3 ∧ H3 r = some (.lst (row.map V.int)) ∧ row.length ≤ 20 * k + j)
        ⟨_, _, _, row, by omega, rfl, s2, hrow, by omega⟩ ?_ ?_⟩
      · rintro j σ H3 hj ⟨t, c, x, row, hx, rfl, s3, hrow, hl⟩
        refine ⟨_, rfl, _, rfl, _, _, rfl, rfl, .inl (by omega), _, rfl, _, _, rfl, rfl, .inr (by decide), _, _, rfl, rfl, _, _, rfl, rfl, .inl ⟨_, rfl, _, _, rfl, rfl, (show (0 : Int) < 2147483629 by decide), ?_⟩⟩
        refine ⟨_, rfl, .inl ⟨rfl, _, SqL.of hrow⟩, _, rfl, _, _, rfl, rfl, (show (0 : Int) < 1000 by decide), r, _, _, rfl, rfl, hrow, szl (by rw [List.length_map]; omega), ?_⟩
        refine ⟨_, _, _, row ++ [(x * x + (0 + (j : Int)) * 7919 + 17) % 2147483629 % 1000], ?_, rfl, same_upd hr0 s3 _, ?_, ?_⟩
        · omega
        · rw [upd_same, List.map_append]
          rfl
        · rw [List.length_append]
          show row.length + 1 ≤ _
          omega
      · rintro σ H3 ⟨t, c, x, row, hx, rfl, s3, hrow, hl⟩
        exact ⟨_, _, _, _, row, rfl, s3, hrow, by omega⟩
  · rintro σ H2 ⟨kk, c, t, x, row, rfl, s2, hrow, hl⟩
    refine ⟨_, rfl, q r row H2 hr0 s2 ?_ hrow⟩
    split at hl <;> omega
theorem at_last {ns : List Int} (h : 0 < (ns.length : Int)) : ∃ v : Int, atI (ns.map V.int) (-1) = some (.int v) := by
  have hn : ns.length - 1 < ns.length := by omega
  refine ⟨ns[ns.length - 1], ?_⟩
  have e : ixN (ns.map V.int).length (-1) = some (ns.length - 1) := by
    unfold ixN
    rw [if_neg (by decide), List.length_map]
    rw [if_pos (by omega)]
    exact congrArg some (by omega)
  show (ixN (ns.map V.int).length (-1)).bind (fun j => (ns.map V.int)[j]?) = _
  rw [e]
  show (ns.map V.int)[ns.length - 1]? = _
  rw [List.getElem?_map, List.getElem?_eq_getElem hn]
  rfl
abbrev sReader : Stmt := topS 16
theorem scReader : FnScope ["script", "row", "seed"] ["script"] (defScope sReader) := ⟨rfl, rfl, rfl, by decide +kernel, rfl, by decide +kernel, by decide +kernel⟩
def spReader (K : PySem.W.Frag) : Sp := fun vs H Q _ => ∃ (a : Addr) (ns : List Int), vs = [.ref a] ∧ SqL K H a (ns.map V.int) ∧ ns.length ≤ 63 ∧ ∀ (p r : Addr) (H' : Hp), H p = none → Same H H' → DrawsAt H' p r → Q (.ref p) H'
theorem c_reader {f : Addr} {fd : FuncData} (T : TxtD mg) (c_law_draws : C8.Cal P w K mg base 1 "_law_draws" (spDraws K) []) (F : Fun K "_law_reader" "_law_reader" sReader f fd) (b : Binds K fd ["script"] []) (hm : mg "_law_reader" = some (.ref f)) : C8.Cal P w K mg base 2 "_law_reader" (spReader K) [] := by
  refine cal_of F hm b scReader (fun vs H Q E h => ?_) (fun cdv A outer s H vs Q E hr h => ?_)
  · obtain ⟨a, ns, rfl, _⟩ := h
    rfl
  obtain ⟨a, ns, rfl, hS, h63, q⟩ := h
  refine ⟨_, (pss_cons (ps_set (i := 1) scReader.nd rfl (Or.inl rfl) (C8.pe_c c_law_draws hr (by decide) rfl (pa_cons (pv 0) pa_nil)))
    (pss_cons (ps_set (i := 2) scReader.nd rfl (Or.inl rfl) pe_int)
    (pss_cons (ps_if (pt_cmpR op_gt (pe_callB call_len_seq rfl T.zlen PySem.boot_len (pa_cons (pv 0) pa_nil)) pe_int (nomark _))
      (pss_one (ps_set (i := 2) scReader.nd rfl (Or.inl rfl) (pe_op op_mod (pe_callB call_abs rfl T.zabs boot_abs (pa_cons (pe_ix ix_list (pv 0) (pe_un un_neg pe_int) (fun _ _ => rfl)) pa_nil)) pe_int)))
      pss_nil)
    (pss_one (ps_ret (pe_disp (pps_cons pe_str (pv 1) (pps_cons pe_str pe_int (pps_cons pe_str (pv 2) pps_nil))) rfl rfl (by decide) (by decide))))))), ?_⟩
  refine ⟨_, rfl, a, ns, rfl, hS, h63, fun r row H2 hr0 s2 hl hrow => ?_⟩
  have fin : ∀ (z : Int) (p : Addr), H2 p = none → Q (.ref p) (upd (upd H2 p (.dK [])) p (.dK (mergeK [] [(Sum.inr "row", .ref r), (Sum.inr "at", .int 0), (Sum.inr "seed", .int z)]))) := fun z p hp => by
    have np : r ≠ p := ne_of_none hrow hp
    refine q p r _ (s2.free hp) (same_upd (s2.free hp) (same_upd (s2.free hp) s2 _) _) ⟨row, 0, z, ?_, by rw [upd_ne np, upd_ne np]; exact hrow⟩
    rw [upd_same, dk_merge]
    rfl
  refine ⟨_, rfl, a, _, rfl, .inl (s2.seq hS), _, _, rfl, rfl, _, rfl, ?_⟩
  refine ite2 (fun c => ?_) (fun c => ?_)
  · have c' : (0 : Int) < (((ns.map V.int).length : Nat) : Int) := of_decide_eq_true c
    rw [List.length_map] at c'
    obtain ⟨v, hv⟩ := at_last (ns := ns) c'
    refine ⟨_, rfl, _, rfl, a, _, _, _, rfl, rfl, s2.seq hS, hv, _, rfl, _, _, rfl, rfl, (show (0 : Int) < 1000003 by decide), ?_⟩
    intro p hp
    have np : r ≠ p := ne_of_none hrow hp
    refine ⟨_, rfl, _, rfl, upd_same, [(Sum.inr "row", V.ref r), (Sum.inr "at", V.int 0), (Sum.inr "seed", V.int _)], rfl, (by show 3 ≤ 15; decide), ?_⟩
    exact fin _ p hp
  · intro p hp
    have np : r ≠ p := ne_of_none hrow hp
    refine ⟨_, rfl, _, rfl, upd_same, [(Sum.inr "row", V.ref r), (Sum.inr "at", V.int 0), (Sum.inr "seed", V.int _)], rfl, (by show 3 ≤ 15; decide), ?_⟩
    exact fin _ p hp

end
end Toy

set_option Elab.async false
set_option linter.all false
set_option maxRecDepth 100000
set_option maxHeartbeats 4000000
/-! Part X: own rules: l.extend(tuple). -/
namespace Toy
open PySem PySem.Spec PyProof.Rows L2
/-- list.extend of a tuple, whatever stands beside its items -/
theorem extend_tupW (l : Addr) (items : Array Value) (n : Nat) (b : Addr) (items2 : Array Value) (n2 : Nat) (dd2 : Option Addr) (sl2 : Array (Option Value)) (hs0 : ¬(!items.isEmpty && Builtin.List.listTooLong (items.size + items2.size)) = true) (hs1 : items.size ≤ sizeLine) (hs2 : items.size + items2.size ≤ sizeLine + 1) :
    Meets (Builtin.«list.extend» ⟨[.ref l, .ref b], []⟩) (fun _ R s => s.heap.get? l = some { cls := .type "list", dict := none, data := .seq items n, slots := #[] } ∧ s.heap.get? b = some { cls := .type "tuple", dict := dd2, data := .seq items2 n2, slots := sl2 } ∧ R (.ok (.ret Value.none)) { s with heap := s.heap.update l (Obj.mapSeq fun x => x ++ items2), toks := s.toks }) :=
  .of_wp fun prog w A R s h => by
    obtain ⟨hp, g, d, tk, os⟩ := s
    obtain ⟨hl, hb, h⟩ := h
    have f1 := AutoSeq1.idx_int
    have f2 := AutoSeq1.sub_tuple_tuple
    have f3 := AutoSeq1.sub_list_list
    have f4 := AutoSeq1.sub_tuple_list
    have f5 := AutoSeq1.sub_list_tuple
    have hz' : (items ++ items2).size ≤ sizeLine + 1 := by rw [Array.size_append]; exact hs2
    wp_walk using (wpAny_updateSeq hl rfl (hz := hs1) (_hz' := hz')), AutoSeq1.wpAny_loadPart' hl, AutoSeq1.wpAny_loadPart' hb
    exact ⟨_, rfl, h⟩
def rExtendT (K : PySem.W.Frag) : V → List V → Hp → VK → Prop := fun x vs H Q => ∃ l b xs zs, x = .ref l ∧ vs = [.ref b] ∧ H l = some (.lst xs) ∧ SqT K H b zs ∧ xs.length + zs.length ≤ sizeLine ∧ Q .non (upd H l (.lst (xs ++ zs)))
theorem mt_extendT {X : Cx} : MtM X "list.extend" (rExtendT X.K) := by
  intro pins s σ H x vs v us Q I rx rv h
  obtain ⟨l, b, xs, zs, rfl, rfl, hH, hB, hz, q⟩ := h
  cases rx
  obtain ⟨u, rfl, ru⟩ := rv.one
  cases ru
  obtain ⟨z, its, n, r, hl, e⟩ := I.lstM hH
  obtain ⟨its2, r2, ht2, hz2⟩ := I.tuple hB
  obtain ⟨⟨cls2, dd2, data2, sl2⟩, ho2, hc2, n2, hd2⟩ := id ht2
  simp only at hc2 hd2
  subst hc2 hd2
  have l1 := r.length
  have l2 := r2.length
  have hsz : its.toArray.size + its2.toArray.size ≤ sizeLine := by rw [List.size_toArray, List.size_toArray]; omega
  have hlong : ¬ (!its.toArray.isEmpty && Builtin.List.listTooLong (its.toArray.size + its2.toArray.size)) = true := by
    rw [notLongL hsz, Bool.and_false]
    exact Bool.false_ne_true
  refine call_meets PySem.F.slot_list_extend ⟨_, e, rfl⟩ PySem.F.entry_list_extend (PySem.F.args_list_extend_2 _ _)
    (extend_tupW l its.toArray n b its2.toArray n2 dd2 sl2 hlong (by rw [List.size_toArray]; omega) (by omega)) ⟨e, ho2, ?_⟩
  refine ⟨.non, _, I.lset (its' := its ++ its2) hH e (by simp) (r.append r2) ?_, rfl, q⟩
  rw [List.length_append]
  omega

/-! ### t[::-1], t a tuple -/
section
variable {prog : Program} {w : World} {A : Around} {E : Value → Shared → Prop} {s : Shared}
theorem rev_adjust (n : Nat) : Builtin.Slice.sliceAdjust none none (-1) (n : Int) = ((n : Int) - 1, -1) := by
  first
    | rfl
    | simp [Builtin.Slice.sliceAdjust]
theorem rev_places (n : Nat) : Builtin.Slice.slicePlaces ((n : Int) - 1) (-1) (-1) = n := by
  unfold Builtin.Slice.slicePlaces
  by_cases h : n = 0
  · subst h
    decide
  · simp
    omega
theorem sliceApplied_rev {sl : Addr} {tk : Tok} {n : Nat} {Q : Int × Int × Nat → Shared → Prop} (hs : s.heap.IsSliceOf sl .none .none (.int (-1) tk))
    (h : Q ((n : Int) - 1, -1, n) s) : wpAny (model prog w) A (Builtin.Slice.sliceApplied (.ref sl) (pure (n : Int))) Q E s := by
  obtain ⟨os, hos, hcs, hds⟩ := id hs
  unfold Builtin.Slice.sliceApplied Builtin.Slice.sliceFields
  refine wpAny_bind (wpAny_bind (wpAny_field hos hds (x := .none) rfl (wpAny_bind (wpAny_field hos hds (x := .none) rfl (wpAny_bind (wpAny_field hos hds (x := .int (-1) tk) rfl (wpAny_pure ?_)))))))
  refine wpAny_bind (HT.slicePart_ (.int (-1) tk) ?_)
  show wpAny _ _ (if ((-1 : Int) == 0) = true then _ else _) _ _ s
  rw [if_neg (by decide)]
  refine wpAny_bind (HT.slicePart_ .none (wpAny_bind (HT.slicePart_ .none (wpAny_bind (wpAny_pure ?_)))))
  show wpAny _ _ (match Builtin.Slice.sliceAdjust none none (-1) (n : Int) with | (lo, hi) => pure (lo, (-1 : Int), Builtin.Slice.slicePlaces lo hi (-1))) _ _ s
  rw [rev_adjust n]
  show wpAny _ _ (pure ((n : Int) - 1, (-1 : Int), Builtin.Slice.slicePlaces ((n : Int) - 1) (-1) (-1))) _ _ s
  rw [rev_places]
  exact wpAny_pure h
theorem fm_congr {α β : Type} {f g : α → Option β} : ∀ {l : List α}, (∀ x ∈ l, f x = g x) → l.filterMap f = l.filterMap g
  | [], _ => rfl
  | a :: l, h => by
    rw [List.filterMap_cons, List.filterMap_cons, h a (List.mem_cons_self ..), fm_congr fun x hx => h x (List.mem_cons_of_mem _ hx)]
theorem pick_rev (xs : Array Value) : ((List.range xs.size).filterMap fun (m : Nat) => xs[((xs.size : Int) - 1 + (m : Int) * -1).toNat]?).toArray = xs.toList.reverse.toArray := by
  congr 1
  have e1 : ((List.range xs.size).filterMap fun (m : Nat) => xs[((xs.size : Int) - 1 + (m : Int) * -1).toNat]?) = ((List.range xs.size).map fun k => xs.size - 1 - k).filterMap (xs[·]?) := by
    rw [List.filterMap_map]
    refine fm_congr fun m hm => ?_
    have hm' := List.mem_range.mp hm
    show xs[((xs.size : Int) - 1 + (m : Int) * -1).toNat]? = xs[xs.size - 1 - m]?
    rw [show ((xs.size : Int) - 1 + (m : Int) * -1).toNat = xs.size - 1 - m by omega]
  rw [e1, PySem.W.krv_range, List.filterMap_reverse, PySem.W.krv_all]
theorem getItem_tuple_rev {t sl : Addr} {items : Array Value} {tk : Tok} {Q : Value → Shared → Prop} (ht : IsTup s.heap t items) (hs : s.heap.IsSliceOf sl .none .none (.int (-1) tk))
    (h : Q (.ref s.heap.objs.size) { s with heap := s.heap.push { cls := .type "tuple", data := .seq items.toList.reverse.toArray } }) (hsz : items.size ≤ sizeLine) : wpAny (model prog w) A (getItem (.ref t) (.ref sl)) Q E s := by
  have htake : sizeOk (.seq items.toList.reverse.toArray) := by
    show items.toList.reverse.toArray.size ≤ sizeLine
    rw [List.size_toArray, List.length_reverse, Array.length_toList]
    exact hsz
  obtain ⟨os, hos, hcs, hds⟩ := id hs
  have hTs : s.TypeIs (.ref sl) "slice" := ⟨os, hos, hcs⟩
  unfold getItem
  try with_reducible refine wpAny_holding ?_
  first | refine wpAny_bind (wpAny_pure ?_) | skip
  refine wpAny_bind (wpAny_sequenceKey ht.typeIs (by decide) ?_)
  refine wpAny_bind (wpAny_callSpecial?_slot (name := Str.ofString "__getitem__") ht.typeIs PyProof.Rows.slot_tuple_getitem
    (wpAny_call_entry PyProof.Rows.slot_tuple_getitem ht.typeIs entry_tuple_getitem ?_ (args_tuple_getitem _ _)))
  show wpAny _ _ (Builtin.Tuple.tupleItemsOf (.ref t) >>= _) _ _ s
  refine wpAny_bind (tupleItemsOf_ ht ?_)
  refine wpAny_bind (wpAny_typeOf hTs ?_)
  rw [if_pos (by decide)]
  refine wpAny_bind (sliceApplied_rev hs ?_)
  have hno : ¬ ((((items.size : Int) - 1) == 0 && (-1 : Int) == 1 && items.size == items.size) = true) := by
    intro q
    rw [Bool.and_eq_true, Bool.and_eq_true] at q
    exact absurd q.1.2 (by decide)
  show wpAny _ _ (if (((items.size : Int) - 1) == 0 && (-1 : Int) == 1 && items.size == items.size) = true then _ else _) _ _ s
  rw [if_neg hno, pick_rev]
  first
    | exact wpAny_bind (m := Builtin.Tuple.tupleExact _) (wpAny_newObj_type (wpAny_pure ⟨_, rfl, wpAny_pure h⟩) htake)
    | exact wpAny_bind (m := Builtin.Tuple.tupleExact _) (wpAny_newObj_type (wpAny_bind (wpAny_pure (wpAny_pure ⟨_, rfl, wpAny_pure h⟩))) htake)
    | exact wpAny_bind (wpAny_bind (m := Builtin.Tuple.tupleExact _) (wpAny_newObj_type (wpAny_pure (wpAny_pure ⟨_, rfl, wpAny_pure h⟩)) htake))
    | exact wpAny_bind (wpAny_bind (m := Builtin.Tuple.tupleExact _) (wpAny_newObj_type (wpAny_pure ⟨_, rfl, wpAny_pure h⟩) htake))
end
section
variable {X : Cx} {e st : Expr} {te ts : TE} {p2 pos : Pos}
/-- t[::st], where st is -1 and t a tuple -/
def tRev (K : PySem.W.Frag) (te ts : TE) : TE := fun σ H Q => te σ H fun x H1 => ts σ H1 fun k H2 => k = .int (-1) ∧ ∃ a xs, x = .ref a ∧ SqT K H2 a xs ∧ ∀ p, H2 p = none → Q (.ref p) (upd H2 p (.tup xs.reverse))
theorem pe_rev {ops : Addr → Addr → List Value} (he : PE X e te) (hst : PE X st ts) (hops : ∀ a b : Addr, subscripted (.Slice none none (some st) p2) false (.ref a) (.ref b) = operate (ops a b) (getItem (.ref a) (.ref b))) : PE X (.Subscript e (.Slice none none (some st) p2) pos) (tRev X.K te ts) := by
  refine ⟨fun pins s σ H Q I h => ?_⟩
  refine Subscript_ (thn (he.run pins s σ H _ I h) fun v s1 ⟨x, H1, I1, r1, q1⟩ => ?_)
  refine wpAny_Slice ?_
  rw [evalPart_none]
  refine wpAny_pure ?_
  refine wpAny_pure ?_
  rw [evalPart_some]
  refine thn (hst.run pins s1 σ H1 _ I1 q1) fun vk s3 ⟨k, H3, I3, rk, ek, a, xs, ex, hx, q⟩ => ?_
  subst ek ex
  obtain ⟨tk, rfl⟩ := rk
  cases r1
  have I4 : Inv X pins σ H3 { s3 with heap := s3.heap.push { cls := .type "slice", data := .fields #[.none, .none, .int (-1) tk] } } := I3.kept (t' := s3.toks) fun b ob q => Heap.get?_push_of_some _ q
  obtain ⟨its, r, ht, hz⟩ := I4.tuple hx
  have hlen : its.toArray.size = xs.length := by rw [List.size_toArray]; exact r.length.symm
  show wpAny (model X.prog X.w) X.A (subscriptTail e (.Slice none none (some st) p2) (.ref a) (.ref s3.heap.objs.size)) (EP X pins σ Q) X.xe { s3 with heap := s3.heap.push { cls := .type "slice", data := .fields #[.none, .none, .int (-1) tk] } }
  refine tail_any (ops := ops a s3.heap.objs.size) ht.typeIs PyProof.Rows.slot_tuple_getitem.lookup (getItem_tuple_rev ht (Heap.IsSliceOf.new ..) ?_ (by rw [hlen]; exact hz)) (hops _ _)
  refine ⟨.ref _, _, I4.laid (t' := s3.toks) (o := .tup xs.reverse) (fun b ob q => Heap.get?_push_of_some _ q) (Nat.le_refl _) ?_, rfl, q _ (I4.hok.fresh (Nat.le_refl _))⟩
  exact ⟨by rw [List.length_reverse]; exact hz, _, r.reverse, IsTup.new _ _⟩
end
example {X : Cx} {e : Expr} {te : TE} {p1 p2 p3 p4 : Pos} (he : PE X e te) : ∃ t, PE X (.Subscript e (.Slice none none (some (.UnaryOp .USub (.Constant (.int 1) 0 p1) p2)) p3) p4) t := ⟨_, pe_rev he (pe_un un_neg pe_int) (fun _ _ => by with_unfolding_all rfl)⟩

/-! ### tuple(d), d a dict: its keys -/
section
variable {X : Cx}
theorem call_tupleD (hcalm : X.calm = true) : CallR X (.type "tuple") (fun xs H Q => ∃ (a : Addr) (kvs : List (Key × V)), xs = [.ref a] ∧ Rd H a (.dK kvs) ∧ ∀ p, H p = none → Q (.ref p) (upd H p (.tup (kvs.map fun kv => kV kv.1)))) := by
  intro pins s σ H xs us Q I r q
  obtain ⟨a, kvs, ex, hd, q⟩ := q
  subst ex
  obtain ⟨u, eu, rx⟩ := vals1 r
  subst eu
  cases rx
  obtain ⟨z, lo, vs, rel, dd⟩ := dk_rd I.hok hd
  obtain ⟨ep, hat⟩ := dd.dictAt
  have ek : (kvs.map fun kv => kV kv.1) = vs.map fun p => kV p.1 := by
    have e := congrArg (List.map kV) rel.keys
    rw [List.map_map, List.map_map] at e
    exact e
  have hn : vs.length ≤ sizeLine := by rw [← rel.length]; exact z
  have hTI : s.TypeIs (.ref a) "dict" := by
    obtain ⟨o, es, ho, hex, _⟩ := id hat
    exact ⟨o, ho, hex.1⟩
  refine callType_codes (Q₁ := fun obj s₁ => s₁.TypeIs obj "tuple" ∧ EP X pins σ Q obj s₁) PySem.F.called_tuple (PySem.F.typeCall_tuple_1 _) PySem.F.entry_object_init ?_ fun obj s₁ h₁ => ?_
  · refine codeAny_of_tree ?_
    show wpAny _ X.A.in1.in1 (do checkBuiltinCall "tuple.__new__" ⟨[.type "tuple", .ref a], []⟩; again (.builtin "tuple.__new__" ⟨[.type "tuple", .ref a], []⟩)) _ _ s
    refine wpAny_bind (wpAny_of_eq (PySem.F.newCall_tuple_1 _) (wpAny_pure ⟨plainId_quiet PySem.F.plain_tuple_new _, codeAny_builtin PySem.F.entry_tuple_new ?_⟩))
    rw [Around.under_plainId PySem.F.plain_tuple_new _]
    have hsub := sub_tuple_self
    have hinit := init_tuple_lookup
    have hmh := madeHere_tuple
    wp_walk using wpAny_typeOf hTI, (PySem.W.kdu_collect (PySem.W.kdl_dict (knd := mixKind X.prog X.w) (kvs := vs) (ep := ep) lo) (show X.A.in1.in1.handled = none from I.ok.hd hcalm) hat hn)
    intro h' tk acc hk hacc
    show wpAny _ _ (Builtin.Tuple.tupleExact acc.toList.toArray >>= fun v => ret v) _ _ _
    have hz : acc.toList.length ≤ sizeLine := by rw [Array.length_toList, hacc.1]; exact hn
    have hv : Vals (vs.map fun p => kV p.1) acc.toList := keys_at (by rw [Array.length_toList]; exact hacc.1) fun j v e => hacc.2 j v (by rw [← Array.getElem?_toList]; exact e)
    have I1 : Inv X pins σ H { s with heap := h', toks := tk } := I.kept (t' := tk) hk
    unfold Builtin.Tuple.tupleExact
    refine wpAny_bind (wpAny_newObj_type ?_ (by show acc.toList.toArray.size ≤ sizeLine; rw [List.size_toArray]; exact hz))
    refine wpAny_pure ⟨⟨_, Heap.get?_push_size _ rfl, rfl⟩, ?_⟩
    refine ⟨.ref h'.objs.size, upd H h'.objs.size (.tup (kvs.map fun kv => kV kv.1)), I1.laid (t' := tk) (fun b o e => Heap.get?_push_of_some _ e) (Nat.le_refl _) (show ObjOk X.prog X.w _ _ _ (.tup (kvs.map fun kv => kV kv.1)) from ⟨by rw [ek, List.length_map]; exact hn, acc.toList, by rw [ek]; exact hv, IsTup.new _ _⟩), rfl, q _ (I1.hok.fresh (Nat.le_refl _))⟩
  · exact ⟨h₁.1, PySem.F.args_object_init_2 obj _, object_init_meets PySem.F.called_tuple.init.lookup PySem.F.called_tuple.made (by decide) X.prog X.w X.A.in1 _ s₁ ⟨h₁.1, rfl, h₁.2⟩⟩
end
end Toy

set_option Elab.async false
set_option linter.all false
set_option maxRecDepth 100000
set_option maxHeartbeats 4000000
/-! Part T: own rules: xs[j:] = ys; != of two dicts with the same values. -/
namespace Toy
open PySem PySem.Spec PyProof.Rows L2
section
variable {prog : Program} {w : World} {A : Around} {E : Value → Shared → Prop} {s : Shared}
theorem tail_bounds {j n : Nat} (hj : j ≤ n) : sliceBounds (some (j : Int)) none none n = ((j : Int), (n : Int), 1) := by
  simp only [sliceBounds, Option.getD_none]
  have q1 : ¬ ((j : Int) < 0) := by omega
  simp only [q1, if_false, show (1 : Int) > 0 by decide, if_true]
  first
    | rfl
    | (congr 1
       omega)
    | (congr 1
       · omega)
theorem setItem_tail {lst src sl : Addr} {old new : Array Value} {n1 n2 : Nat} {vj : Value} {j : Nat} {Q : Unit → Shared → Prop}
    (e1 : s.heap.get? lst = some { cls := .type "list", data := .seq old n1 }) (e2 : s.heap.get? src = some { cls := .type "list", data := .seq new n2 }) (dif : lst ≠ src)
    (hsl : s.heap.IsSliceOf sl vj .none .none) (pj : IsPart vj (some (j : Int))) (hj : j ≤ old.size)
    (hz : old.size + new.size ≤ sizeLine) (h : Q () { s with heap := s.heap.update lst (Obj.mapSeq fun xs => xs.extract 0 j ++ new ++ xs.extract old.size xs.size) }) :
    wpAny (model prog w) A (setItem (.ref lst) (.ref sl) (.ref src)) Q E s := by
  have h1 : s.heap.IsList lst old := PySem.IsL.isList e1
  have h2 : s.heap.IsList src new := PySem.IsL.isList e2
  obtain ⟨osl, hosl, hcsl, hdsl⟩ := id hsl
  have hTsl : s.TypeIs (.ref sl) "slice" := ⟨osl, hosl, hcsl⟩
  have nostep : ¬ ((rawPart none == rawInt 0) = true) := Bool.false_ne_true
  have nosame : Builtin.List.listSameRef (.ref lst) (.ref src) = false := by
    unfold Builtin.List.listSameRef
    exact beq_eq_false_iff_ne.mpr dif
  have hm : (max (j : Int) (old.size : Int)).toNat = old.size := by omega
  have hz2 : ((fun xs : Array Value => xs.extract 0 j ++ new ++ xs.extract old.size xs.size) old).size ≤ sizeLine + 1 := by
    simp only [Array.size_append, Array.size_extract]
    omega
  unfold setItem
  try with_reducible refine wpAny_holding ?_
  first | refine wpAny_bind (wpAny_pure ?_) | skip
  refine wpAny_bind (wpAny_sequenceKey h1.typeIs (by decide) ?_)
  refine wpAny_bind (wpAny_callSpecial?_slot (name := Str.ofString "__setitem__") h1.typeIs slot_list_setitem (wpAny_call_entry slot_list_setitem h1.typeIs entry_list_setitem ?_ (args_list_setitem _ _ _)))
  show wpAny _ _ (Builtin.List.listSubscript? (.ref sl) >>= _) _ _ s
  refine wpAny_bind ?_
  unfold Builtin.List.listSubscript?
  refine wpAny_bind (wpAny_specialOf hTsl slice_no_index ?_)
  simp only [Option.isNone_none, if_true]
  refine wpAny_pure ?_
  show wpAny _ _ (typeOf (.ref sl) >>= _) _ _ s
  refine wpAny_bind (wpAny_typeOf hTsl ?_)
  first
    | rw [if_neg (by decide)]
    | refine PySem.W.KFB.if_not (by decide) ?_
  rw [listSliceParts_eq]
  refine wpAny_bind (wpAny_bind (wpAny_field hosl hdsl (x := .none) rfl (wpAny_bind (wpAny_listPart .none ?_))))
  rw [if_neg nostep]
  refine wpAny_bind (wpAny_field hosl hdsl (x := vj) rfl (wpAny_bind (wpAny_listPart pj ?_)))
  refine wpAny_bind (wpAny_field hosl hdsl (x := .none) rfl (wpAny_bind (wpAny_listPart .none (wpAny_pure ?_))))
  first
    | simp only [nosame, Bool.false_eq_true, if_false]
    | refine PySem.W.KFB.if_not nosame ?_
    | (dsimp only
       rw [if_neg (by rw [nosame]; exact Bool.false_ne_true)])
  refine wpAny_bind (m := Builtin.List.listAllItems (.ref src) "must assign iterable to extended slice") ?_
  unfold Builtin.List.listAllItems
  refine wpAny_bind (wpAny_typeOf h2.typeIs ?_)
  first
    | refine PySem.W.KFB.if_so (by decide) ?_
    | rw [if_pos (by decide)]
    | simp only [beq_self_eq_true, Bool.true_or, if_true]
  unfold Builtin.List.listItems
  refine wpAny_bind (wpAny_seqItems e2 rfl (wpAny_pure ?_))
  refine wpAny_bind (wpAny_bind (wpAny_seqItems e1 rfl (wpAny_pure ?_)))
  refine wpAny_bind (wpAny_of_eq ((sliceIndices_raw (some (j : Int)) none none old.size (by simp)).trans (congrArg (pure : Int × Int × Int → Sem (Int × Int × Int)) (tail_bounds hj))) ?_)
  show wpAny _ _ (if ((1 : Int) == 1) = true then _ else _) _ _ s
  rw [if_pos (by decide)]
  refine wpAny_bind (wpAny_rule ?_)
  first
    | simp only [notLongL hz, Bool.false_eq_true, if_false]
    | refine PySem.W.KFB.if_not (notLongL hz) ?_
  first | refine wpAny_bind (wpAny_pure ?_) | skip
  show wpAny _ _ (updateSeq lst (fun xs => xs.extract 0 ((j : Int)).toNat ++ new ++ xs.extract (max (j : Int) (old.size : Int)).toNat xs.size) >>= _) _ _ s
  rw [hm, Int.toNat_natCast]
  refine wpAny_bind (wpAny_updateSeq (hz := Nat.le_trans (Nat.le_add_right _ _) hz) (_hz' := hz2) e1 rfl ?_)
  refine wpAny_bind (wpAny_letGo ?_)
  first
    | exact wpAny_bind (wpAny_pure (wpAny_pure ⟨.none, rfl, wpAny_pure h⟩))
    | exact wpAny_pure ⟨.none, rfl, wpAny_pure h⟩
end
section
variable {X : Cx}
def sTail (to ta tv : TE) : TS := fun D σ H => tv σ H fun v H1 => to σ H1 fun x H2 => ta σ H2 fun y H3 => ∃ (l b : Addr) (xs ys : List V) (j : Nat), x = .ref l ∧ v = .ref b ∧ y = .int (j : Int) ∧ H3 l = some (.lst xs) ∧ H3 b = some (.lst ys) ∧ l ≠ b ∧ j ≤ xs.length ∧ xs.length + ys.length ≤ sizeLine ∧ D.nx σ (upd H3 l (.lst (xs.take j ++ ys)))
theorem ps_tail {o a value : Expr} {to ta tv : TE} {p2 pos' pos : Pos} (ho : PE X o to) (ha : PE X a ta) (hv : PE X value tv) (hs : swapsWith value (some (.Subscript o (.Slice (some a) none none p2) pos')) pos.line X.env = pure false := by rfl) :
    PS X (.Assign [.Subscript o (.Slice (some a) none none p2) pos'] value pos) (sTail to ta tv) := by
  refine ⟨fun pins s σ H D I h => ?_⟩
  refine wpAny_Assign_Subscript (thn (hv.run pins s σ H _ I h) fun r s1 ⟨v, H1, I1, rv, q1⟩ => thn (ho.run pins s1 σ H1 _ I1 q1) fun u s2 ⟨x, H2, I2, rx, q2⟩ => ?_) hs
  refine wpAny_Slice ?_
  rw [evalPart_some]
  refine thn (ha.run pins s2 σ H2 _ I2 q2) fun iv s3 ⟨y, H3, I3, ry, l, b, xs, ys, j, ex, ev, ey, hl, hb, dif, hj, hz, q⟩ => ?_
  subst ex ev ey
  rw [evalPart_none]
  refine wpAny_pure ?_
  refine wpAny_pure ?_
  obtain ⟨tj, rfl⟩ := ry
  cases rx
  cases rv
  have I4 : Inv X pins σ H3 { s3 with heap := s3.heap.push { cls := .type "slice", data := .fields #[.int (j : Int) tj, .none, .none] } } := I3.kept (t' := s3.toks) fun b ob q => Heap.get?_push_of_some _ q
  obtain ⟨z, its, n, r, hll, e⟩ := I4.lstM hl
  obtain ⟨z2, its2, n2, r2, hll2, e2⟩ := I4.lstM hb
  refine setItem_tail (j := j) e e2 dif (Heap.IsSliceOf.new ..) (.int _ _) (by rw [List.size_toArray]; omega) (by rw [List.size_toArray, List.size_toArray]; omega) ?_
  refine ⟨_, _, I4.lset (its' := its.take j ++ its2) (t' := s3.toks) hl e ?_ (Vals.append (r.take _) r2) ?_, q⟩
  · show its.toArray.extract 0 j ++ its2.toArray ++ its.toArray.extract its.toArray.size its.toArray.size = (its.take j ++ its2).toArray
    rw [List.size_toArray]
    have z := splice_eq its its2 j its.length
    rw [List.size_toArray, List.drop_length, List.append_nil] at z
    exact z
  · rw [List.length_append, List.length_take]
    omega
/-- the same objects under the same keys -/
theorem hits_refs {A : Around} {s : Shared} {kvs : List (Key × V)} {vb : List (Key × Value)} (rb : KV kvs vb) : ∀ {ks : List (Key × V)} {va : List (Key × Value)}, KV ks va →
    (∀ p ∈ ks, ∃ c, p.2 = .ref c ∧ valV kvs p.1 = some (.ref c)) → PySem.W.KeqHits A s vb va true
  | [], _, ra, _ => by
    cases ra
    exact .nil
  | p :: ks, _, ra, hp => by
    cases ra with
    | @cons _ y _ ys h t =>
      obtain ⟨h1, h2⟩ := h
      obtain ⟨c, e1, e2⟩ := hp p (List.mem_cons_self ..)
      have rr : RelO (some (V.ref c)) (valueAt vb p.1) := e2 ▸ rb.val p.1
      obtain ⟨u, hu, ru⟩ := rr.some_of
      obtain ⟨k, v⟩ := y
      have ek : p.1 = k := h1
      rw [ek] at hu
      rw [e1] at h2
      have ev : v = Value.ref c := h2
      have eu : u = Value.ref c := ru
      subst ev eu
      show PySem.W.KeqHits A s vb ((k, Value.ref c) :: ys) (true && true)
      exact .hit hu (SeqAt.EqAt.same _) (hits_refs rb t fun p' hm => hp p' (List.mem_cons_of_mem _ hm))
def rNeDR : R2 := fun x y H Q => ∃ a b ks ls, x = .ref a ∧ y = .ref b ∧ H a = some (.dK ks) ∧ H b = some (.dK ls) ∧ ks.length = ls.length ∧ (∀ p ∈ ks, ∃ c, p.2 = .ref c ∧ valV ls p.1 = some (.ref c)) ∧ Q (.bl false) H
theorem op_ne_dictR (hu : X.A.units < cLine) : OpR X (compareOp .NotEq) rNeDR := by
  intro pins s σ H x y v u Q I rx ry h
  obtain ⟨a, b, ks, ls, rfl, rfl, ea, eb, hlen, hp, q⟩ := h
  cases rx
  cases ry
  obtain ⟨_, ya, va, ra, da⟩ := (show ObjOk X.prog X.w H s.heap a (.dK ks) from I.hok a _ ea)
  obtain ⟨_, yb, vb, rb, db⟩ := (show ObjOk X.prog X.w H s.heap b (.dK ls) from I.hok b _ eb)
  have hl : va.length = vb.length := ra.length.symm.trans (hlen.trans rb.length)
  refine PySem.W.keq_ne (knd := mixKind X.prog X.w) (r := true) ya yb da db hu (fun _ => hits_refs rb ra hp) ?_
  rw [hl, beq_self_eq_true]
  exact ⟨.bl false, H, I, rfl, q⟩
end
end Toy

set_option Elab.async false
set_option linter.all false
set_option maxRecDepth 100000
set_option maxHeartbeats 4000000
/-! Part B: types, in plain Lean, and how they stand in the heap. -/
namespace Toy
open PySem L2
inductive Kd
  | nm (s : Str)
  | mt (i : Int)
  | fn (a b : Kd)
  | cn (s : Str) (l : List Kd)
mutual
def Kd.D : Kd → PyData
  | .nm s => .tuple [.str "name", .str s]
  | .mt i => .tuple [.str "meta", .int i]
  | .fn a b => .tuple [.str "fun", a.D, b.D]
  | .cn s l => .tuple [.str "con", .str s, .tuple (Kd.Ds l)]
def Kd.Ds : List Kd → List PyData
  | [] => []
  | k :: l => k.D :: Kd.Ds l
end
/-- the types directly in a type -/
def Kd.parts : Kd → List Kd
  | .nm _ => []
  | .mt _ => []
  | .fn a b => [a, b]
  | .cn _ l => l
mutual
/-- a type stands in the heap as v, in tuples that are tracked -/
def Kd.At (H : Hp) : Kd → V → Prop
  | .nm s, v => ∃ a, v = .ref a ∧ H a = some (.tup [.str "name", .str s])
  | .mt i, v => ∃ a, v = .ref a ∧ H a = some (.tup [.str "meta", .int i])
  | .fn p q, v => ∃ a x y, v = .ref a ∧ H a = some (.tup [.str "fun", x, y]) ∧ p.At H x ∧ q.At H y
  | .cn s l, v => ∃ a b xs, v = .ref a ∧ H a = some (.tup [.str "con", .str s, .ref b]) ∧ H b = some (.tup xs) ∧ Kd.Ats H l xs
def Kd.Ats (H : Hp) : List Kd → List V → Prop
  | [], xs => xs = []
  | k :: l, xs => ∃ x ys, xs = x :: ys ∧ k.At H x ∧ Kd.Ats H l ys
end
/-- a heap in which the tuples stand -/
def TK (H H' : Hp) : Prop := ∀ a xs, H a = some (.tup xs) → H' a = some (.tup xs)
theorem TK.refl (H : Hp) : TK H H := fun _ _ h => h
theorem TK.trans {H1 H2 H3 : Hp} (h : TK H1 H2) (k : TK H2 H3) : TK H1 H3 := fun a xs e => k a xs (h a xs e)
theorem tk_same {H H' : Hp} (s : Same H H') : TK H H' := fun _ _ e => s _ _ e
theorem tk_upd {H : Hp} {p : Addr} {o : HO} (n : ∀ xs, H p ≠ some (.tup xs)) : TK H (upd H p o) := fun a xs e => by
  rw [upd_ne (fun z => n xs (by rw [← z]; exact e))]
  exact e
theorem tk_list {H : Hp} {p : Addr} {ys : List V} {o : HO} (h : H p = some (.lst ys)) : TK H (upd H p o) := tk_upd fun xs e => by rw [h] at e; cases e
theorem tk_dict {H : Hp} {p : Addr} {kvs : List (Key × V)} {o : HO} (h : H p = some (.dK kvs)) : TK H (upd H p o) := tk_upd fun xs e => by rw [h] at e; cases e
theorem tk_dictT {H : Hp} {p : Addr} {kvs : List (List Key × V)} {o : HO} (h : H p = some (.dT kvs)) : TK H (upd H p o) := tk_upd fun xs e => by rw [h] at e; cases e
theorem tk_new {H : Hp} {p : Addr} {o : HO} (h : H p = none) : TK H (upd H p o) := tk_same (same_new h o)
theorem tk_keep {p : Addr} {H H' : Hp} (k : Keep p H H') (n : ∀ xs, H p ≠ some (.tup xs)) : TK H H' := fun a xs e => k a _ (fun z => n xs (z ▸ e)) e
theorem DrawsAt.notup {H : Hp} {p r : Addr} (d : DrawsAt H p r) : ∀ xs, H p ≠ some (.tup xs) := fun xs e => by
  obtain ⟨_, _, _, h, _⟩ := d
  rw [h] at e
  cases e
mutual
theorem Kd.At.keep {H H' : Hp} : ∀ {k : Kd} {v : V}, TK H H' → k.At H v → k.At H' v
  | .nm s, _, t, ⟨a, e, h⟩ => ⟨a, e, t _ _ h⟩
  | .mt i, _, t, ⟨a, e, h⟩ => ⟨a, e, t _ _ h⟩
  | .fn p q, _, t, ⟨a, x, y, e, h, h1, h2⟩ => ⟨a, x, y, e, t _ _ h, Kd.At.keep t h1, Kd.At.keep t h2⟩
  | .cn s l, _, t, ⟨a, b, xs, e, h, hb, hl⟩ => ⟨a, b, xs, e, t _ _ h, t _ _ hb, Kd.Ats.keep t hl⟩
theorem Kd.Ats.keep {H H' : Hp} : ∀ {l : List Kd} {xs : List V}, TK H H' → Kd.Ats H l xs → Kd.Ats H' l xs
  | [], _, _, h => h
  | k :: l, _, t, ⟨x, ys, e, h1, h2⟩ => ⟨x, ys, e, Kd.At.keep t h1, Kd.Ats.keep t h2⟩
end
mutual
theorem Kd.At.dp {K : PySem.W.Frag} {H : Hp} : ∀ {k : Kd} {v : V}, k.At H v → Dp K H v k.D
  | .nm s, _, ⟨a, e, h⟩ => by
    subst e
    exact .tup (SqT.of h) (.cons (.str _) (.cons (.str _) .nil))
  | .mt i, _, ⟨a, e, h⟩ => by
    subst e
    exact .tup (SqT.of h) (.cons (.str _) (.cons (.int _) .nil))
  | .fn p q, _, ⟨a, x, y, e, h, h1, h2⟩ => by
    subst e
    exact .tup (SqT.of h) (.cons (.str _) (.cons (Kd.At.dp h1) (.cons (Kd.At.dp h2) .nil)))
  | .cn s l, _, ⟨a, b, xs, e, h, hb, hl⟩ => by
    subst e
    exact .tup (SqT.of h) (.cons (.str _) (.cons (.str _) (.cons (.tup (SqT.of hb) (Kd.Ats.dp hl)) .nil)))
theorem Kd.Ats.dp {K : PySem.W.Frag} {H : Hp} : ∀ {l : List Kd} {xs : List V}, Kd.Ats H l xs → DpAll K H xs (Kd.Ds l)
  | [], _, h => by
    have e : _ = [] := h
    subst e
    exact .nil
  | k :: l, _, ⟨x, ys, e, h1, h2⟩ => by
    subst e
    exact .cons (Kd.At.dp h1) (Kd.Ats.dp h2)
end
theorem Kd.Ats.len {H : Hp} : ∀ {l : List Kd} {xs : List V}, Kd.Ats H l xs → xs.length = l.length
  | [], _, h => by
    have e : _ = [] := h
    subst e
    rfl
  | k :: l, _, ⟨x, ys, e, h1, h2⟩ => by
    subst e
    rw [List.length_cons, List.length_cons, Kd.Ats.len h2]
theorem Kd.Ats.get {H : Hp} : ∀ {l : List Kd} {xs : List V} (j : Nat) {x : V}, Kd.Ats H l xs → xs[j]? = some x → ∃ k, l[j]? = some k ∧ k.At H x
  | [], _, j, x, h, e => by
    have z : _ = [] := h
    subst z
    simp at e
  | k :: l, _, 0, x, ⟨y, ys, e, h1, h2⟩, q => by
    subst e
    have z : y = x := Option.some.inj q
    subst z
    exact ⟨k, rfl, h1⟩
  | k :: l, _, j + 1, x, ⟨y, ys, e, h1, h2⟩, q => by
    subst e
    exact Kd.Ats.get (l := l) j h2 q
/-- the tuple of a type: its word, then what it has -/
def Kd.word : Kd → Str
  | .nm _ => "name"
  | .mt _ => "meta"
  | .fn _ _ => "fun"
  | .cn _ _ => "con"
theorem Kd.At.tup {H : Hp} : ∀ {k : Kd} {v : V}, k.At H v → ∃ a xs, v = .ref a ∧ H a = some (.tup (.str k.word :: xs))
  | .nm s, _, ⟨a, e, h⟩ => ⟨a, _, e, h⟩
  | .mt i, _, ⟨a, e, h⟩ => ⟨a, _, e, h⟩
  | .fn p q, _, ⟨a, x, y, e, h, _⟩ => ⟨a, _, e, h⟩
  | .cn s l, _, ⟨a, b, xs, e, h, _⟩ => ⟨a, _, e, h⟩
/-! ### sizes, depths, what may be compared -/
mutual
def Kd.size : Kd → Nat
  | .nm _ => 1
  | .mt _ => 1
  | .fn a b => 1 + a.size + b.size
  | .cn _ l => 1 + Kd.sizes l
def Kd.sizes : List Kd → Nat
  | [] => 0
  | k :: l => k.size + Kd.sizes l
end
theorem Kd.sizes_app : ∀ a b : List Kd, Kd.sizes (a ++ b) = Kd.sizes a + Kd.sizes b
  | [], b => by rw [List.nil_append, Kd.sizes, Nat.zero_add]
  | k :: a, b => by rw [List.cons_append, Kd.sizes, Kd.sizes, Kd.sizes_app a b, Nat.add_assoc]
mutual
def Kd.dep : Kd → Nat
  | .nm _ => 0
  | .mt _ => 0
  | .fn a b => 1 + max a.dep b.dep
  | .cn _ l => 1 + Kd.deps l
def Kd.deps : List Kd → Nat
  | [] => 0
  | k :: l => max k.dep (Kd.deps l)
end
mutual
/-- its texts are texts that may be compared -/
def Kd.lay : Kd → Bool
  | .nm s => PyData.strOk s
  | .mt _ => true
  | .fn a b => a.lay && b.lay
  | .cn s l => PyData.strOk s && Kd.lays l
def Kd.lays : List Kd → Bool
  | [] => true
  | k :: l => k.lay && Kd.lays l
end
theorem ok_name : PyData.strOk "name" = true := by decide +kernel
theorem ok_meta : PyData.strOk "meta" = true := by decide +kernel
theorem ok_fun : PyData.strOk "fun" = true := by decide +kernel
theorem ok_con : PyData.strOk "con" = true := by decide +kernel
mutual
theorem Kd.canLay : ∀ k : Kd, k.lay = true → k.D.canLay0 = true
  | .nm s, h => by
    have h : PyData.strOk s = true := h
    simp [Kd.D, PyData.canLay0, PyData.canLayAll0, ok_name, h]
  | .mt i, _ => by simp [Kd.D, PyData.canLay0, PyData.canLayAll0, ok_meta]
  | .fn a b, h => by
    have h : (a.lay && b.lay) = true := h
    rw [Bool.and_eq_true] at h
    simp [Kd.D, PyData.canLay0, PyData.canLayAll0, ok_fun, Kd.canLay a h.1, Kd.canLay b h.2]
  | .cn s l, h => by
    have h : (PyData.strOk s && Kd.lays l) = true := h
    rw [Bool.and_eq_true] at h
    simp [Kd.D, PyData.canLay0, PyData.canLayAll0, ok_con, h.1, Kd.canLays l h.2]
theorem Kd.canLays : ∀ l : List Kd, Kd.lays l = true → PyData.canLayAll0 (Kd.Ds l) = true
  | [], _ => by simp [Kd.Ds, PyData.canLayAll0]
  | k :: l, h => by
    have h : (k.lay && Kd.lays l) = true := h
    rw [Bool.and_eq_true] at h
    simp [Kd.Ds, PyData.canLayAll0, Kd.canLay k h.1, Kd.canLays l h.2]
end
mutual
theorem Kd.depth_le : ∀ k : Kd, k.D.depth ≤ 2 * k.dep + 1
  | .nm s => by simp [Kd.D, PyData.depth, PyData.depthAll]
  | .mt i => by simp [Kd.D, PyData.depth, PyData.depthAll]
  | .fn a b => by
    have h1 := Kd.depth_le a
    have h2 := Kd.depth_le b
    simp [Kd.D, PyData.depth, PyData.depthAll, Kd.dep]
    omega
  | .cn s l => by
    have h1 := Kd.depths_le l
    simp [Kd.D, PyData.depth, PyData.depthAll, Kd.dep]
    omega
theorem Kd.depths_le : ∀ l : List Kd, PyData.depthAll (Kd.Ds l) ≤ 2 * Kd.deps l + 1
  | [] => by simp [Kd.Ds, PyData.depthAll]
  | k :: l => by
    have h1 := Kd.depth_le k
    have h2 := Kd.depths_le l
    simp [Kd.Ds, PyData.depthAll, Kd.deps]
    omega
end
theorem Kd.shaped {k : Kd} (h : k.lay = true) (d : k.dep ≤ 30) : SeqAt.shaped k.D = true := by
  unfold SeqAt.shaped
  rw [Bool.and_eq_true]
  have := Kd.depth_le k
  exact ⟨Kd.canLay k h, decide_eq_true (by omega)⟩
theorem sne1 : (("name" : Str) == "meta") = false := by decide +kernel
theorem sne2 : (("meta" : Str) == "name") = false := by decide +kernel
theorem sne3 : (("name" : Str) == "fun") = false := by decide +kernel
theorem sne4 : (("fun" : Str) == "name") = false := by decide +kernel
theorem sne5 : (("name" : Str) == "con") = false := by decide +kernel
theorem sne6 : (("con" : Str) == "name") = false := by decide +kernel
theorem sne7 : (("meta" : Str) == "fun") = false := by decide +kernel
theorem sne8 : (("fun" : Str) == "meta") = false := by decide +kernel
theorem sne9 : (("meta" : Str) == "con") = false := by decide +kernel
theorem sne10 : (("con" : Str) == "meta") = false := by decide +kernel
theorem sne11 : (("fun" : Str) == "con") = false := by decide +kernel
theorem sne12 : (("con" : Str) == "fun") = false := by decide +kernel
theorem str_eqv (x y : Str) : PyData.eqv (.str x) (.str y) = (x == y) := by rw [PyData.eqv]
theorem int_eqv (x y : Int) : PyData.eqv (.int x) (.int y) = (x == y) := by rw [PyData.eqv]
theorem is_eqv (x : Str) (y : Int) : PyData.eqv (.str x) (.int y) = false := by rw [PyData.eqv]
theorem si_eqv (x : Str) (y : Int) : PyData.eqv (.int y) (.str x) = false := by rw [PyData.eqv]
theorem tup_eqv (x y : List PyData) : PyData.eqv (.tuple x) (.tuple y) = PyData.eqvAll x y := by rw [PyData.eqv]
theorem all_eqv (a b : PyData) (x y : List PyData) : PyData.eqvAll (a :: x) (b :: y) = (PyData.eqv a b && PyData.eqvAll x y) := by rw [PyData.eqvAll]
theorem nil_eqv : PyData.eqvAll [] [] = true := by rw [PyData.eqvAll]
theorem nc_eqv (b : PyData) (y : List PyData) : PyData.eqvAll [] (b :: y) = false := by rw [PyData.eqvAll]
theorem cn_eqv (b : PyData) (y : List PyData) : PyData.eqvAll (b :: y) [] = false := by rw [PyData.eqvAll]
theorem Kd.eqv_word {k m : Kd} (h : (k.word == m.word) = false) : PyData.eqv k.D m.D = false := by
  have e : ∀ k : Kd, ∃ l, k.D = .tuple (.str k.word :: l) := fun k => by cases k <;> exact ⟨_, rfl⟩
  obtain ⟨l1, e1⟩ := e k
  obtain ⟨l2, e2⟩ := e m
  rw [e1, e2, tup_eqv, all_eqv, str_eqv, h, Bool.false_and]
theorem iff_ne {b : Bool} {p : Prop} (h : b = false) (n : ¬ p) : b = true ↔ p := ⟨fun e => (by rw [h] at e; cases e), fun q => (n q).elim⟩
mutual
theorem Kd.eqv_iff : ∀ k m : Kd, PyData.eqv k.D m.D = true ↔ k = m
  | .nm s, m => by
    cases m with
    | nm t =>
      rw [Kd.D, Kd.D, tup_eqv, all_eqv, all_eqv, str_eqv, str_eqv, nil_eqv, beq_self_eq_true, Bool.true_and, Bool.and_true, beq_iff_eq]
      exact ⟨fun e => by rw [e], fun e => by cases e; rfl⟩
    | mt j => exact iff_ne (Kd.eqv_word sne1) (fun e => by cases e)
    | fn c d => exact iff_ne (Kd.eqv_word sne3) (fun e => by cases e)
    | cn t m => exact iff_ne (Kd.eqv_word sne5) (fun e => by cases e)
  | .mt i, m => by
    cases m with
    | nm t => exact iff_ne (Kd.eqv_word sne2) (fun e => by cases e)
    | mt j =>
      rw [Kd.D, Kd.D, tup_eqv, all_eqv, all_eqv, str_eqv, int_eqv, nil_eqv, beq_self_eq_true, Bool.true_and, Bool.and_true, beq_iff_eq]
      exact ⟨fun e => by rw [e], fun e => by cases e; rfl⟩
    | fn c d => exact iff_ne (Kd.eqv_word sne7) (fun e => by cases e)
    | cn t m => exact iff_ne (Kd.eqv_word sne9) (fun e => by cases e)
  | .fn a b, m => by
    cases m with
    | nm t => exact iff_ne (Kd.eqv_word sne4) (fun e => by cases e)
    | mt j => exact iff_ne (Kd.eqv_word sne8) (fun e => by cases e)
    | fn c d =>
      rw [Kd.D, Kd.D, tup_eqv, all_eqv, all_eqv, all_eqv, str_eqv, nil_eqv, beq_self_eq_true, Bool.true_and, Bool.and_true, Bool.and_eq_true, Kd.eqv_iff a c, Kd.eqv_iff b d]
      exact ⟨fun e => by rw [e.1, e.2], fun e => by cases e; exact ⟨rfl, rfl⟩⟩
    | cn t m => exact iff_ne (Kd.eqv_word sne11) (fun e => by cases e)
  | .cn s l, m => by
    cases m with
    | nm t => exact iff_ne (Kd.eqv_word sne6) (fun e => by cases e)
    | mt j => exact iff_ne (Kd.eqv_word sne10) (fun e => by cases e)
    | fn c d => exact iff_ne (Kd.eqv_word sne12) (fun e => by cases e)
    | cn t m =>
      rw [Kd.D, Kd.D, tup_eqv, all_eqv, all_eqv, all_eqv, str_eqv, str_eqv, tup_eqv, nil_eqv, beq_self_eq_true, Bool.true_and, Bool.and_true, Bool.and_eq_true, beq_iff_eq, Kd.eqvs_iff l m]
      exact ⟨fun e => by rw [e.1, e.2], fun e => by cases e; exact ⟨rfl, rfl⟩⟩
theorem Kd.eqvs_iff : ∀ l m : List Kd, PyData.eqvAll (Kd.Ds l) (Kd.Ds m) = true ↔ l = m
  | [], m => by
    cases m with
    | nil => rw [Kd.Ds, nil_eqv]; exact ⟨fun _ => rfl, fun _ => rfl⟩
    | cons n m => rw [Kd.Ds, Kd.Ds]; exact iff_ne (nc_eqv _ _) (fun e => by cases e)
  | k :: l, m => by
    cases m with
    | nil => rw [Kd.Ds, Kd.Ds]; exact iff_ne (cn_eqv _ _) (fun e => by cases e)
    | cons n m =>
      rw [Kd.Ds, Kd.Ds, all_eqv, Bool.and_eq_true, Kd.eqv_iff k n, Kd.eqvs_iff l m]
      exact ⟨fun e => by rw [e.1, e.2], fun e => by cases e; exact ⟨rfl, rfl⟩⟩
end
end Toy

set_option Elab.async false
set_option linter.all false
set_option maxRecDepth 100000
set_option maxHeartbeats 4000000
/-! Part M: leaves; types put in the place of names; when a type is an instance of another. -/
namespace Toy
open PySem L2
mutual
/-- the leaves of one word ("name" | "meta"), from left to right -/
def Kd.lv (w : Str) : Kd → List Key
  | .nm s => if w = "name" then [Sum.inr s] else []
  | .mt i => if w = "meta" then [Sum.inl i] else []
  | .fn a b => a.lv w ++ b.lv w
  | .cn _ l => Kd.lvs w l
def Kd.lvs (w : Str) : List Kd → List Key
  | [] => []
  | k :: l => k.lv w ++ Kd.lvs w l
end
theorem Kd.lvs_app (w : Str) : ∀ a b : List Kd, Kd.lvs w (a ++ b) = Kd.lvs w a ++ Kd.lvs w b
  | [], b => rfl
  | k :: a, b => by rw [List.cons_append, Kd.lvs, Kd.lvs, Kd.lvs_app w a b, List.append_assoc]
/-- one more key, unless it is there -/
noncomputable def addK (ks : List Key) (k : Key) : List Key := open Classical in if k ∈ ks then ks else ks ++ [k]
noncomputable def addAll (ks l : List Key) : List Key := l.foldl addK ks
theorem addAll_app (ks a b : List Key) : addAll ks (a ++ b) = addAll (addAll ks a) b := List.foldl_append
theorem mem_addK {ks : List Key} {k j : Key} : j ∈ addK ks k ↔ j ∈ ks ∨ j = k := by
  unfold addK
  split
  · rename_i h
    exact ⟨.inl, fun e => by rcases e with e | e; exact e; rw [e]; exact h⟩
  · rw [List.mem_append, List.mem_singleton]
theorem mem_addAll : ∀ {l ks : List Key} {j : Key}, j ∈ addAll ks l ↔ j ∈ ks ∨ j ∈ l
  | [], ks, j => by simp [addAll]
  | k :: l, ks, j => by
    show j ∈ addAll (addK ks k) l ↔ _
    rw [mem_addAll, mem_addK, List.mem_cons]
    constructor
    · rintro ((h | h) | h)
      · exact .inl h
      · exact .inr (.inl h)
      · exact .inr (.inr h)
    · rintro (h | h | h)
      · exact .inl (.inl h)
      · exact .inl (.inr h)
      · exact .inr h
theorem len_addK (ks : List Key) (k : Key) : (addK ks k).length ≤ ks.length + 1 := by
  unfold addK
  split
  · omega
  · rw [List.length_append, List.length_singleton]
    exact Nat.le_refl _
theorem Kd.size_parts : ∀ k : Kd, Kd.sizes k.parts + 1 = k.size
  | .nm s => rfl
  | .mt i => rfl
  | .fn a b => by
    show Kd.sizes [a, b] + 1 = 1 + a.size + b.size
    rw [Kd.sizes, Kd.sizes, Kd.sizes]
    omega
  | .cn s l => by show Kd.sizes l + 1 = 1 + Kd.sizes l; omega
/-- what a part lists itself -/
def Kd.own (w : Str) : Kd → List Key
  | .nm s => if w = "name" then [Sum.inr s] else []
  | .mt i => if w = "meta" then [Sum.inl i] else []
  | _ => []
theorem Kd.lv_own (w : Str) : ∀ k : Kd, k.lv w = k.own w ++ Kd.lvs w k.parts
  | .nm s => by show _ = _ ++ []; rw [List.append_nil]; rfl
  | .mt i => by show _ = _ ++ []; rw [List.append_nil]; rfl
  | .fn a b => by
      show a.lv w ++ b.lv w = Kd.lvs w [a, b]
      rw [Kd.lvs, Kd.lvs, Kd.lvs, List.append_nil]
  | .cn s l => rfl
/-- the walk with a stack, its top first -/
theorem Kd.walk_step (w : Str) (k : Kd) (stack : List Kd) (ks : List Key) :
    addAll ks (Kd.lvs w (k :: stack)) = addAll (addAll ks (k.own w)) (Kd.lvs w (k.parts ++ stack)) := by
  rw [Kd.lvs, Kd.lv_own w k, Kd.lvs_app, List.append_assoc, addAll_app]
/-- the dict that stands for a row of keys -/
def setOf (ks : List Key) : List (Key × V) := ks.map fun k => (k, V.bl true)
theorem put_set (ks : List Key) (k : Key) : putK (setOf ks) k (V.bl true) = setOf (addK ks k) := by
  unfold putK addK
  by_cases h : k ∈ ks
  · have e : ((setOf ks).any fun kv => decide (kv.1 = k)) = true := by
      rw [List.any_eq_true]
      exact ⟨(k, V.bl true), List.mem_map.mpr ⟨k, h, rfl⟩, decide_eq_true rfl⟩
    rw [if_pos e, if_pos h]
    unfold setOf
    rw [List.map_map]
    refine List.map_congr_left fun x _ => ?_
    show (if x = k then (x, V.bl true) else (x, V.bl true)) = _
    split <;> rfl
  · have e : ¬ ((setOf ks).any fun kv => decide (kv.1 = k)) = true := by
      rw [List.any_eq_true]
      rintro ⟨⟨x, v⟩, hx, hd⟩
      obtain ⟨y, hy, e2⟩ := List.mem_map.mp hx
      have e3 : x = k := of_decide_eq_true hd
      have e4 : y = x := congrArg Prod.fst e2
      exact h (by rw [← e3, ← e4]; exact hy)
    rw [if_neg e, if_neg h]
    unfold setOf
    rw [List.map_append]
    rfl
/-! ### instances -/
mutual
def Kd.sub (f : Str → Kd) : Kd → Kd
  | .nm s => f s
  | .mt i => .mt i
  | .fn a b => .fn (a.sub f) (b.sub f)
  | .cn s l => .cn s (Kd.subs f l)
def Kd.subs (f : Str → Kd) : List Kd → List Kd
  | [] => []
  | k :: l => k.sub f :: Kd.subs f l
end
theorem Kd.subs_len (f : Str → Kd) : ∀ l : List Kd, (Kd.subs f l).length = l.length
  | [] => rfl
  | k :: l => by rw [Kd.subs, List.length_cons, List.length_cons, Kd.subs_len f l]
theorem Kd.subs_iff (f : Str → Kd) : ∀ (l m : List Kd), l.length = m.length → (Kd.subs f l = m ↔ ∀ q ∈ l.zip m, q.1.sub f = q.2)
  | [], [], _ => by simp [Kd.subs]
  | [], _ :: _, h => by cases h
  | _ :: _, [], h => by cases h
  | k :: l, n :: m, h => by
    rw [Kd.subs, List.cons.injEq, Kd.subs_iff f l m (Nat.succ.inj h), List.zip_cons_cons, List.forall_mem_cons]
def Kd.alike : Kd → Kd → Bool
  | .nm s, .nm t => s == t
  | .mt i, .mt j => i == j
  | .fn _ _, .fn _ _ => true
  | .cn s l, .cn t m => l.length == m.length && s == t
  | _, _ => false
theorem Kd.alike_word {k m : Kd} (h : (k.word == m.word) = false) : k.alike m = false := by
  cases k <;> cases m <;> first | rfl | (exfalso; revert h; simp [Kd.word])
theorem Kd.alike_no (f : Str → Kd) : ∀ p k : Kd, (∀ s, p ≠ .nm s) → p.alike k = false → p.sub f ≠ k
  | .nm s, _, n, _ => (n s rfl).elim
  | .mt i, k, _, h => fun e => by
    rw [← e] at h
    simp [Kd.alike, Kd.sub] at h
  | .fn a b, k, _, h => fun e => by
    rw [← e] at h
    simp [Kd.alike, Kd.sub] at h
  | .cn s l, k, _, h => fun e => by
    rw [← e] at h
    simp [Kd.alike, Kd.sub, Kd.subs_len] at h
theorem Kd.alike_yes (f : Str → Kd) : ∀ p k : Kd, (∀ s, p ≠ .nm s) → p.alike k = true → p.parts.length = k.parts.length ∧ (p.sub f = k ↔ ∀ q ∈ p.parts.zip k.parts, q.1.sub f = q.2)
  | .nm s, _, n, _ => (n s rfl).elim
  | .mt i, k, _, h => by
    cases k with
    | mt j =>
      have e : i = j := by simpa [Kd.alike] using h
      subst e
      exact ⟨rfl, by simp [Kd.sub, Kd.parts]⟩
    | _ => cases h
  | .fn a b, k, _, h => by
    cases k with
    | fn c d => exact ⟨rfl, by simp [Kd.sub, Kd.parts]⟩
    | _ => cases h
  | .cn s l, k, _, h => by
    cases k with
    | cn t m =>
      have e : l.length = m.length ∧ s = t := by simpa [Kd.alike] using h
      obtain ⟨e1, e2⟩ := e
      subst e2
      refine ⟨e1, ?_⟩
      rw [Kd.sub]
      have z := Kd.subs_iff f l m e1
      exact ⟨fun q => z.mp (by cases q; rfl), fun q => by rw [z.mpr q]⟩
    | _ => cases h
abbrev Sb := List (Str × Kd)
def Fits (f : Str → Kd) (σ : Sb) : Prop := ∀ q ∈ σ, f q.1 = q.2
def Solves (f : Str → Kd) (todo : List (Kd × Kd)) : Prop := ∀ q ∈ todo, q.1.sub f = q.2
/-- some way to put types in the place of names -/
def Sol (σ : Sb) (todo : List (Kd × Kd)) : Prop := ∃ f, Fits f σ ∧ Solves f todo
theorem look_fits {f : Str → Kd} : ∀ {σ : Sb} {s : Str} {k : Kd}, σ.lookup s = some k → Fits f σ → f s = k
  | [], _, _, h, _ => by cases h
  | (t, m) :: σ, s, k, h, hf => by
    rw [List.lookup_cons] at h
    split at h
    · rename_i e
      have e : s = t := by simpa using e
      cases h
      subst e
      exact hf _ (List.mem_cons_self ..)
    · exact look_fits h fun q hq => hf q (List.mem_cons_of_mem _ hq)
theorem fits_add {f : Str → Kd} {σ : Sb} {s : Str} {k : Kd} : Fits f (σ ++ [(s, k)]) ↔ Fits f σ ∧ f s = k := by
  unfold Fits
  constructor
  · intro h
    exact ⟨fun q hq => h q (List.mem_append_left _ hq), h (s, k) (List.mem_append_right _ (List.mem_singleton.mpr rfl))⟩
  · rintro ⟨h1, h2⟩ q hq
    rcases List.mem_append.mp hq with hq | hq
    · exact h1 q hq
    · rw [List.mem_singleton.mp hq]
      exact h2
theorem look_none : ∀ {σ : Sb} {s : Str}, σ.lookup s = none → s ∉ σ.map (·.1)
  | [], _, _ => fun h => by cases h
  | (t, m) :: σ, s, h => by
    rw [List.lookup_cons] at h
    split at h
    · cases h
    · rename_i e
      intro z
      rcases List.mem_cons.mp z with z | z
      · rw [show s = t from z] at e
        simp at e
      · exact look_none h z
theorem nodup_add {σ : Sb} {s : Str} {k : Kd} (h : (σ.map (·.1)).Nodup) (n : σ.lookup s = none) : ((σ ++ [(s, k)]).map (·.1)).Nodup := by
  rw [List.map_append, List.nodup_append]
  refine ⟨h, by simp, fun a ha b hb => ?_⟩
  have e : b = s := by simpa using hb
  rw [e]
  exact fun z => look_none n (z ▸ ha)
theorem fits_some : ∀ {σ : Sb}, (σ.map (·.1)).Nodup → ∃ f, Fits f σ := by
  intro σ h
  refine ⟨fun s => (σ.lookup s).getD (.nm s), ?_⟩
  intro q hq
  show (σ.lookup q.1).getD _ = q.2
  have z : σ.lookup q.1 = some q.2 := by
    induction σ with
    | nil => cases hq
    | cons p σ ih =>
      obtain ⟨t, m⟩ := p
      rw [List.lookup_cons]
      have hn := List.nodup_cons.mp (show (t :: σ.map (·.1)).Nodup from h)
      rcases List.mem_cons.mp hq with e | hq'
      · subst e
        rw [beq_self_eq_true]
      · have ne : (q.1 == t) = false := by
          rw [beq_eq_false_iff_ne]
          intro e
          exact hn.1 (e ▸ List.mem_map.mpr ⟨q, hq', rfl⟩)
        rw [ne]
        exact ih hn.2 hq'
  rw [z]
  rfl
theorem sol_nil {σ : Sb} (h : (σ.map (·.1)).Nodup) : Sol σ [] := by
  obtain ⟨f, hf⟩ := fits_some h
  exact ⟨f, hf, fun q hq => by cases hq⟩
theorem solves_snoc {f : Str → Kd} {todo : List (Kd × Kd)} {p k : Kd} : Solves f (todo ++ [(p, k)]) ↔ Solves f todo ∧ p.sub f = k := by
  unfold Solves
  constructor
  · intro h
    exact ⟨fun q hq => h q (List.mem_append_left _ hq), h (p, k) (List.mem_append_right _ (List.mem_singleton.mpr rfl))⟩
  · rintro ⟨h1, h2⟩ q hq
    rcases List.mem_append.mp hq with hq | hq
    · exact h1 q hq
    · rw [List.mem_singleton.mp hq]
      exact h2
theorem solves_app {f : Str → Kd} {a b : List (Kd × Kd)} : Solves f (a ++ b) ↔ Solves f a ∧ Solves f b := by
  unfold Solves
  exact ⟨fun h => ⟨fun q hq => h q (List.mem_append_left _ hq), fun q hq => h q (List.mem_append_right _ hq)⟩, fun h q hq => (List.mem_append.mp hq).elim (h.1 q) (h.2 q)⟩
/-- the steps -/
theorem sol_there {σ : Sb} {todo : List (Kd × Kd)} {s : Str} {m k : Kd} (h : σ.lookup s = some m) (e : m = k) : Sol σ (todo ++ [(.nm s, k)]) ↔ Sol σ todo := by
  constructor
  · rintro ⟨f, h1, h2⟩
    exact ⟨f, h1, (solves_snoc.mp h2).1⟩
  · rintro ⟨f, h1, h2⟩
    exact ⟨f, h1, solves_snoc.mpr ⟨h2, by rw [Kd.sub, look_fits h h1, e]⟩⟩
theorem sol_clash {σ : Sb} {todo : List (Kd × Kd)} {s : Str} {m k : Kd} (h : σ.lookup s = some m) (e : m ≠ k) : ¬ Sol σ (todo ++ [(.nm s, k)]) := by
  rintro ⟨f, h1, h2⟩
  have z := (solves_snoc.mp h2).2
  rw [Kd.sub, look_fits h h1] at z
  exact e z
theorem sol_add {σ : Sb} {todo : List (Kd × Kd)} {s : Str} {k : Kd} : Sol σ (todo ++ [(.nm s, k)]) ↔ Sol (σ ++ [(s, k)]) todo := by
  constructor
  · rintro ⟨f, h1, h2⟩
    exact ⟨f, fits_add.mpr ⟨h1, by have z := (solves_snoc.mp h2).2; rwa [Kd.sub] at z⟩, (solves_snoc.mp h2).1⟩
  · rintro ⟨f, h1, h2⟩
    exact ⟨f, (fits_add.mp h1).1, solves_snoc.mpr ⟨h2, by rw [Kd.sub]; exact (fits_add.mp h1).2⟩⟩
theorem sol_no {σ : Sb} {todo : List (Kd × Kd)} {p k : Kd} (n : ∀ s, p ≠ .nm s) (h : p.alike k = false) : ¬ Sol σ (todo ++ [(p, k)]) := by
  rintro ⟨f, _, h2⟩
  exact Kd.alike_no f p k n h (solves_snoc.mp h2).2
theorem sol_yes {σ : Sb} {todo : List (Kd × Kd)} {p k : Kd} (n : ∀ s, p ≠ .nm s) (h : p.alike k = true) : Sol σ (todo ++ [(p, k)]) ↔ Sol σ (todo ++ p.parts.zip k.parts) := by
  constructor
  · rintro ⟨f, h1, h2⟩
    have z := solves_snoc.mp h2
    exact ⟨f, h1, solves_app.mpr ⟨z.1, (Kd.alike_yes f p k n h).2.mp z.2⟩⟩
  · rintro ⟨f, h1, h2⟩
    have z := solves_app.mp h2
    exact ⟨f, h1, solves_snoc.mpr ⟨z.1, (Kd.alike_yes f p k n h).2.mpr z.2⟩⟩
/-! ### a dict of what was found -/
section
variable {κ : Type} [DecidableEq κ]
def FoundAs (key : Str → κ) (H : Hp) : List (κ × V) → Sb → Prop
  | [], σ => σ = []
  | p :: kvs, σ => ∃ s m τ, σ = (s, m) :: τ ∧ p.1 = key s ∧ m.At H p.2 ∧ FoundAs key H kvs τ
theorem FoundAs.keep {key : Str → κ} {H H' : Hp} (t : TK H H') : ∀ {kvs : List (κ × V)} {σ : Sb}, FoundAs key H kvs σ → FoundAs key H' kvs σ
  | [], _, h => h
  | p :: kvs, _, ⟨s, m, τ, e, h1, h2, h3⟩ => ⟨s, m, τ, e, h1, h2.keep t, FoundAs.keep t h3⟩
theorem FoundAs.len {key : Str → κ} {H : Hp} : ∀ {kvs : List (κ × V)} {σ : Sb}, FoundAs key H kvs σ → kvs.length = σ.length
  | [], _, h => by
    have e : _ = [] := h
    rw [e]
    rfl
  | p :: kvs, _, ⟨s, m, τ, e, h1, h2, h3⟩ => by rw [e, List.length_cons, List.length_cons, FoundAs.len h3]
theorem FoundAs.look {key : Str → κ} (inj : ∀ s t, key s = key t → s = t) {H : Hp} (s : Str) : ∀ {kvs : List (κ × V)} {σ : Sb}, FoundAs key H kvs σ → (σ.lookup s = none ∧ valV kvs (key s) = none) ∨ ∃ m v, σ.lookup s = some m ∧ valV kvs (key s) = some v ∧ m.At H v
  | [], _, h => by
    have e : _ = [] := h
    subst e
    exact .inl ⟨rfl, rfl⟩
  | p :: kvs, _, ⟨t, m, τ, e, h1, h2, h3⟩ => by
    subst e
    by_cases z : s = t
    · subst z
      exact .inr ⟨m, p.2, by rw [List.lookup_cons, beq_self_eq_true], valV_pos h1, h2⟩
    · have ne : (s == t) = false := by rw [beq_eq_false_iff_ne]; exact z
      rw [List.lookup_cons, ne, valV_neg (fun q => z (inj _ _ (q.symm.trans h1)))]
      exact FoundAs.look inj s h3
theorem FoundAs.add {key : Str → κ} {H : Hp} {s : Str} {m : Kd} {v : V} (hm : m.At H v) : ∀ {kvs : List (κ × V)} {σ : Sb}, FoundAs key H kvs σ → FoundAs key H (kvs ++ [(key s, v)]) (σ ++ [(s, m)])
  | [], _, h => by
    have e : _ = [] := h
    subst e
    exact ⟨s, m, [], rfl, rfl, hm, rfl⟩
  | p :: kvs, _, ⟨t, n, τ, e, h1, h2, h3⟩ => ⟨t, n, τ ++ [(s, m)], by rw [e]; rfl, h1, h2, FoundAs.add hm h3⟩
end
end Toy

set_option Elab.async false
set_option linter.all false
set_option maxRecDepth 100000
set_option maxHeartbeats 4000000
/-! Part C: the program's defs over types. -/
namespace Toy
open PySem L2
open PyProof.Rows (envOfC)
def Kd.tag : Kd → Nat
  | .nm _ => 0
  | .mt _ => 1
  | .fn _ _ => 2
  | .cn _ _ => 3
theorem Kd.word_tag {k m : Kd} (h : k.word = m.word) : k.tag = m.tag := by
  have q : (k.word == m.word) = true := beq_iff_eq.mpr h
  cases k <;> cases m <;> first | rfl | (exfalso; first | exact absurd (q.symm.trans sne1) (by decide) | exact absurd (q.symm.trans sne2) (by decide) | exact absurd (q.symm.trans sne3) (by decide) | exact absurd (q.symm.trans sne4) (by decide) | exact absurd (q.symm.trans sne5) (by decide) | exact absurd (q.symm.trans sne6) (by decide) | exact absurd (q.symm.trans sne7) (by decide) | exact absurd (q.symm.trans sne8) (by decide) | exact absurd (q.symm.trans sne9) (by decide) | exact absurd (q.symm.trans sne10) (by decide) | exact absurd (q.symm.trans sne11) (by decide) | exact absurd (q.symm.trans sne12) (by decide))
theorem Kd.word_fun {k : Kd} (h : k.tag ≠ 2) : k.word ≠ "fun" := fun e => h (Kd.word_tag (m := .fn (.nm "a") (.nm "a")) e)
theorem Kd.alike_len {k m : Kd} (h : ¬ k.parts.length = m.parts.length) : k.alike m = false := by
  cases k <;> cases m <;> first | rfl | exact absurd rfl h | skip
  rename_i s l t n
  show (l.length == n.length && s == t) = false
  rw [show (l.length == n.length) = false from by rw [beq_eq_false_iff_ne]; exact h, Bool.false_and]
/-- a leaf: its second item -/
theorem Kd.At.leaf {H : Hp} {wd : Str} (hw : wd = "name" ∨ wd = "meta") {a : Addr} : ∀ {k : Kd}, k.At H (.ref a) → k.word = wd → ∃ key : Key, k.own wd = [key] ∧ H a = some (.tup [.str k.word, kV key])
  | .nm s, h, e => by
    obtain ⟨_, z, h⟩ := h
    cases z
    exact ⟨Sum.inr s, by rw [← e]; rfl, h⟩
  | .mt i, h, e => by
    obtain ⟨_, z, h⟩ := h
    cases z
    exact ⟨Sum.inl i, by rw [← e]; rfl, h⟩
  | .fn p q, _, e => by
    have e : (Kd.fn p q).word = wd := e
    rcases hw with w | w
    · exact absurd (Kd.word_tag (m := .nm "a") (e.trans w)) (by simp [Kd.tag])
    · exact absurd (Kd.word_tag (m := .mt 0) (e.trans w)) (by simp [Kd.tag])
  | .cn s l, _, e => by
    have e : (Kd.cn s l).word = wd := e
    rcases hw with w | w
    · exact absurd (Kd.word_tag (m := .nm "a") (e.trans w)) (by simp [Kd.tag])
    · exact absurd (Kd.word_tag (m := .mt 0) (e.trans w)) (by simp [Kd.tag])
theorem Kd.own_not {wd : Str} : ∀ {k : Kd}, k.word ≠ wd → k.own wd = []
  | .nm s, h => if_neg fun e => h e.symm
  | .mt i, h => if_neg fun e => h e.symm
  | .fn p q, _ => rfl
  | .cn s l, _ => rfl
theorem Kd.Ats.app {H : Hp} : ∀ {l m : List Kd} {xs ys : List V}, Kd.Ats H l xs → Kd.Ats H m ys → Kd.Ats H (l ++ m) (xs ++ ys)
  | [], _, _, _, h, k => by
    have e : _ = [] := h
    subst e
    exact k
  | p :: l, _, _, _, ⟨x, zs, e, h1, h2⟩, k => by
    subst e
    exact ⟨x, _, rfl, h1, Kd.Ats.app h2 k⟩
theorem own_len (k : Kd) (wd : Str) (ks : List Key) : (addAll ks (k.own wd)).length ≤ ks.length + 1 := by
  have one : ∀ (c : Prop) [Decidable c] (key : Key), (addAll ks (if c then [key] else [])).length ≤ ks.length + 1 := fun c _ key => by
    split
    · exact len_addK ks key
    · exact Nat.le_succ _
  cases k with
  | nm s => exact one _ _
  | mt i => exact one _ _
  | fn a b => exact Nat.le_succ _
  | cn s l => exact Nat.le_succ _
theorem Kd.sizes_len : ∀ l : List Kd, l.length ≤ Kd.sizes l
  | [] => Nat.le_refl _
  | k :: l => by
    have h1 := Kd.sizes_len l
    have h2 := Kd.size_parts k
    rw [Kd.sizes, List.length_cons]
    omega
theorem at0 (x : V) (l : List V) : atI (x :: l) 0 = some x := atI_nat (j := 0) rfl
theorem at1 (x y : V) (l : List V) : atI (x :: y :: l) 1 = some y := atI_nat (j := 1) rfl
structure TxtT (mg : Str → Option Value) : Prop where
  ztuple : mg "tuple" = none
  zlist : mg "list" = none
  zzip : mg "zip" = none
  zlen : mg "len" = none
theorem boot_tuple : bootBuiltins "tuple" = some (.type "tuple") := by decide +kernel
section
variable {P : Program} {w : World} {K : PySem.W.Frag} {mg : Str → Option Value} {base : Heap}
abbrev sParts : Stmt := topS 9
theorem scParts : FnScope ["kind"] ["kind"] (defScope sParts) := ⟨rfl, rfl, rfl, by decide +kernel, rfl, by decide +kernel, by decide +kernel⟩
def spParts (K : PySem.W.Frag) : Sp := fun vs H Q _ => ∃ (v : V) (k : Kd), vs = [v] ∧ k.At H v ∧ ∀ (b : Addr) (xs : List V) (H' : Hp), Same H H' → H' b = some (.tup xs) → Kd.Ats H' k.parts xs → Q (.ref b) H'
theorem c_parts {f : Addr} {fd : FuncData} (F : Fun K "kind_parts" "kind_parts" sParts f fd) (b : Binds K fd ["kind"] []) (hm : mg "kind_parts" = some (.ref f)) : C8.Cal P w K mg base 1 "kind_parts" (spParts K) [] := by
  refine cal_of F hm b scParts (fun vs H Q E h => ?_) (fun cdv A outer s H vs Q E hr h => ?_)
  · obtain ⟨v, k, rfl, _⟩ := h
    rfl
  obtain ⟨v, k, rfl, hd, q⟩ := h
  refine ⟨_, (pss_cons (ps_if (pt_cmpR op_eq (pe_ix ix_tup (pv 0) pe_int (fun _ _ => rfl)) pe_str (nomark _))
      (pss_one (ps_ret (pe_ix ix_tup (pv 0) pe_int (fun _ _ => rfl))))
      pss_nil)
    (pss_cons (ps_if (pt_cmpR op_eq (pe_ix ix_tup (pv 0) pe_int (fun _ _ => rfl)) pe_str (nomark _))
      (pss_one (ps_ret (pe_slice sl_tupA (pv 0) (po_some pe_int) po_none)))
      pss_nil)
    (pss_one (ps_ret (pe_tup pa_nil))))), ?_⟩
  have e1 : decide (V.str ("name" : Str) = V.str "con") = false := by decide +kernel
  have e2 : decide (V.str ("name" : Str) = V.str "fun") = false := by decide +kernel
  have e3 : decide (V.str ("meta" : Str) = V.str "con") = false := by decide +kernel
  have e4 : decide (V.str ("meta" : Str) = V.str "fun") = false := by decide +kernel
  have e5 : decide (V.str ("fun" : Str) = V.str "con") = false := by decide +kernel
  have e6 : decide (V.str ("fun" : Str) = V.str "fun") = true := by decide +kernel
  have e7 : decide (V.str ("con" : Str) = V.str "con") = true := by decide +kernel
  cases k with
  | nm s =>
    obtain ⟨a, rfl, hs⟩ := hd
    refine ⟨_, rfl, a, _, 0, _, rfl, rfl, SqT.of hs, rfl, rfl, _, rfl, ?_⟩
    rw [e1]
    refine iteF ?_
    refine ⟨_, rfl, a, _, 0, _, rfl, rfl, SqT.of hs, rfl, rfl, _, rfl, ?_⟩
    rw [e2]
    refine iteF ?_
    exact ⟨(by show 0 ≤ sizeLine; decide), fun t ht => q t [] _ (same_new ht _) upd_same rfl⟩
  | mt i =>
    obtain ⟨a, rfl, hs⟩ := hd
    refine ⟨_, rfl, a, _, 0, _, rfl, rfl, SqT.of hs, rfl, rfl, _, rfl, ?_⟩
    rw [e3]
    refine iteF ?_
    refine ⟨_, rfl, a, _, 0, _, rfl, rfl, SqT.of hs, rfl, rfl, _, rfl, ?_⟩
    rw [e4]
    refine iteF ?_
    exact ⟨(by show 0 ≤ sizeLine; decide), fun t ht => q t [] _ (same_new ht _) upd_same rfl⟩
  | fn m n =>
    obtain ⟨a, x, y, rfl, hs, hx, hy⟩ := hd
    refine ⟨_, rfl, a, _, 0, _, rfl, rfl, SqT.of hs, rfl, rfl, _, rfl, ?_⟩
    rw [e5]
    refine iteF ?_
    refine ⟨_, rfl, a, _, 0, _, rfl, rfl, SqT.of hs, rfl, rfl, _, rfl, ?_⟩
    rw [e6]
    refine iteT ?_
    refine ⟨_, rfl, 1, rfl, a, _, rfl, SqT.of hs, fun z => ?_, fun _ t ht => ?_⟩
    · exact absurd z.1 (by show ¬ HT.sIx 3 0 (some 1) = 0; decide)
    · have s1 : TK H (upd H t (.tup [x, y])) := tk_new ht
      exact q t [x, y] _ (same_new ht _) upd_same ⟨x, [y], rfl, hx.keep s1, y, [], rfl, hy.keep s1, rfl⟩
  | cn s l =>
    obtain ⟨a, b2, xs, rfl, hs, hb, hr2⟩ := hd
    refine ⟨_, rfl, a, _, 0, _, rfl, rfl, SqT.of hs, rfl, rfl, _, rfl, ?_⟩
    rw [e7]
    refine iteT ?_
    exact ⟨_, rfl, a, _, 2, _, rfl, rfl, SqT.of hs, rfl, q b2 xs H (fun _ _ h => h) hb hr2⟩
abbrev sLeaves : Stmt := topS 8
theorem scLeaves : FnScope ["kind", "word", "found", "todo", "part"] ["kind", "word"] (defScope sLeaves) := ⟨rfl, rfl, rfl, by decide +kernel, rfl, by decide +kernel, by decide +kernel⟩
def spLeaves (K : PySem.W.Frag) : Sp := fun vs H Q _ => ∃ (v : V) (k : Kd) (wd : Str), vs = [v, .str wd] ∧ (wd = "name" ∨ wd = "meta") ∧ k.At H v ∧ k.size ≤ 100000 ∧ ∀ (b : Addr) (H' : Hp), Same H H' → H' b = some (.tup ((addAll [] (k.lv wd)).map kV)) → Q (.ref b) H'
theorem c_leaves {f : Addr} {fd : FuncData} (T : TxtT mg) (ckind_parts : C8.Cal P w K mg base 1 "kind_parts" (spParts K) []) (F : Fun K "_leaves" "_leaves" sLeaves f fd) (b : Binds K fd ["kind", "word"] []) (hm : mg "_leaves" = some (.ref f)) : C8.Cal P w K mg base 2 "_leaves" (spLeaves K) [] := by
  refine cal_of F hm b scLeaves (fun vs H Q E h => ?_) (fun cdv A outer s H vs Q E hr h => ?_)
  · obtain ⟨v, k, wd, rfl, _⟩ := h
    rfl
  obtain ⟨v, k, wd, rfl, hw, hd, hsz, q⟩ := h
  have hu := hu_of hr
  refine ⟨_, (pss_cons (ps_set (i := 2) scLeaves.nd rfl (Or.inl rfl) pe_dnewK)
    (pss_cons (ps_set (i := 3) scLeaves.nd rfl (Or.inl rfl) (pe_lst (pa_cons (pv 0) pa_nil)))
    (pss_cons (ps_while PassesOwn.never (pt_truth (pv 3) (fun _ => rfl))
      (pss_cons (ps_set (i := 4) scLeaves.nd rfl (Or.inl rfl) (pe_bm0 PySem.F.plainAttrs_list PySem.F.slot_list_pop PySem.F.type_list_pop mt_pop (pv 3)))
    (C8.pss_cut (ps_if (pt_cmpR op_eq (pe_ix ix_tup (pv 4) pe_int (fun _ _ => rfl)) (pv 1) (nomark _))
      (pss_one (ps_dput hu (pv 2) (pe_ix ix_tup (pv 4) pe_int (fun _ _ => rfl)) pe_bl rfl))
      pss_nil)
    (pss_one (ps_expr (pe_bm PySem.F.plainAttrs_list PySem.F.slot_list_extend PySem.F.type_list_extend mt_extendT (pv 3) (pa_cons (pe_rev (C8.pe_c ckind_parts hr (by decide) rfl (pa_cons (pv 4) pa_nil)) (pe_un un_neg pe_int) (fun _ _ => by with_unfolding_all rfl)) pa_nil)))))))
    (pss_one (ps_ret (pe_callTy (call_tupleD rfl) rfl T.ztuple boot_tuple (pa_cons (pv 2) pa_nil))))))), ?_⟩
  intro fd0 hfd0
  refine ⟨_, rfl, by show 1 ≤ sizeLine; decide, fun td htd => ?_⟩
  have nft : fd0 ≠ td := ne_of_none (H := upd H fd0 (.dK [])) upd_same htd
  have htd0 : H td = none := by rw [upd_ne nft.symm] at htd; exact htd
  refine ⟨fun n σ H2 => ∃ (pt : Option V) (ks : List Key) (st : List V) (kl : List Kd), n = Kd.sizes kl ∧ σ = [some v, some (.str wd), some (.ref fd0), some (.ref td), pt] ∧ Same H H2 ∧ H2 fd0 = some (.dK (setOf ks)) ∧ H2 td = some (.lst st) ∧ Kd.Ats H2 kl st.reverse ∧ ks.length + Kd.sizes kl ≤ k.size ∧ addAll ks (Kd.lvs wd kl) = addAll [] (k.lv wd), ⟨_, none, [], [v], [k], rfl, rfl, same_upd htd0 (same_new hfd0 _) _, ?_, upd_same, ?_, ?_, ?_⟩, ?_⟩
  · rw [upd_ne nft, upd_same]
    rfl
  · exact ⟨v, [], rfl, hd.keep ((tk_new hfd0).trans (tk_new htd)), rfl⟩
  · rw [Kd.sizes, Kd.sizes]
    show 0 + _ ≤ _
    omega
  · rw [Kd.lvs, Kd.lvs, List.append_nil]
  · rintro n σ H2 ⟨pt, ks, st, kl, rfl, rfl, s2, hf2, ht2, hat, hlen, hall⟩
    refine ⟨_, rfl, _, .inl ⟨st, SqL.of ht2, rfl⟩, ?_⟩
    cases kl with
    | nil =>
      have e : st = [] := List.reverse_eq_nil_iff.mp hat
      subst e
      refine iteF ?_
      refine ⟨_, rfl, fd0, _, rfl, .inl hf2, fun p hp => ?_⟩
      refine q p _ (same_upd (s2.free hp) s2 _) ?_
      rw [upd_same, ← hall]
      show some (HO.tup ((setOf ks).map fun kv => kV kv.1)) = some (HO.tup ((addAll ks []).map kV))
      rw [setOf, List.map_map]
      rfl
    | cons k0 kl =>
      obtain ⟨x, ys, ex, hx, hys⟩ := hat
      have est : st = ys.reverse ++ [x] := by rw [← List.reverse_reverse st, ex, List.reverse_cons]
      subst est
      have ne : (!(ys.reverse ++ [x]).isEmpty) = true := by cases ys.reverse <;> rfl
      rw [ne]
      refine iteT ?_
      refine ⟨fun σ' H' => ∃ (pt : Option V) (ks' : List Key) (st' : List V) (kl' : List Kd), Kd.sizes kl' < Kd.sizes (k0 :: kl) ∧ σ' = [some v, some (.str wd), some (.ref fd0), some (.ref td), pt] ∧ Same H H' ∧ H' fd0 = some (.dK (setOf ks')) ∧ H' td = some (.lst st') ∧ Kd.Ats H' kl' st'.reverse ∧ ks'.length + Kd.sizes kl' ≤ k.size ∧ addAll ks' (Kd.lvs wd kl') = addAll [] (k.lv wd),
        fun σ' H' ⟨pt, ks', st', kl', lt, rest⟩ => ⟨_, lt, pt, ks', st', kl', rfl, rest⟩, ?_⟩
      refine ⟨_, rfl, .inl ⟨rfl, _, SqL.of ht2⟩, td, _, x, rfl, rfl, ht2, by simp, ?_⟩
      rw [List.dropLast_concat]
      have ht3 : upd H2 td (.lst ys.reverse) td = some (.lst ys.reverse) := upd_same
      have hf3 : upd H2 td (.lst ys.reverse) fd0 = some (.dK (setOf ks)) := by rw [upd_ne nft]; exact hf2
      have s3 : Same H (upd H2 td (.lst ys.reverse)) := same_upd htd0 s2 _
      have t3 : TK H2 (upd H2 td (.lst ys.reverse)) := tk_list ht2
      generalize upd H2 td (.lst ys.reverse) = H3 at ht3 hf3 s3 t3
      have hx3 := hx.keep t3
      have hys3 := hys.keep t3
      obtain ⟨a, r, rfl, ha⟩ := hx3.tup
      refine ⟨fun σ' H4 => ∃ ks', σ' = [some v, some (.str wd), some (.ref fd0), some (.ref td), some (.ref a)] ∧ Same H H4 ∧ TK H3 H4 ∧ H4 fd0 = some (.dK (setOf ks')) ∧ H4 td = some (.lst ys.reverse) ∧ ks' = addAll ks (k0.own wd), ?_, ?_⟩
      · refine ⟨_, rfl, a, _, 0, .str k0.word, rfl, rfl, SqT.of ha, at0 _ _, _, rfl, rfl, _, rfl, ?_⟩
        by_cases hwd : k0.word = wd
        · have z : decide (V.str k0.word = V.str wd) = true := by rw [hwd]; exact decide_eq_true rfl
          show if decide (V.str k0.word = V.str wd) = true then _ else _
          rw [z]
          refine iteT ?_
          obtain ⟨key, eo, hl⟩ := Kd.At.leaf hw hx3 hwd
          refine ⟨_, rfl, _, rfl, a, _, 1, kV key, rfl, rfl, SqT.of hl, at1 _ _ _, fd0, _, rfl, DPut.k (k := key) hf3 ?_, ?_⟩
          · rw [setOf, List.length_map]
            exact szl (by omega)
          · refine ⟨addK ks key, rfl, same_upd hfd0 s3 _, tk_dict hf3, ?_, ?_, ?_⟩
            · rw [upd_same, put_set]
            · rw [upd_ne nft.symm]
              exact ht3
            · rw [eo]
              rfl
        · have z : decide (V.str k0.word = V.str wd) = false := decide_eq_false (fun e => hwd (V.str.inj e))
          show if decide (V.str k0.word = V.str wd) = true then _ else _
          rw [z]
          refine iteF ?_
          exact ⟨ks, rfl, s3, TK.refl _, hf3, ht3, by rw [Kd.own_not hwd]; rfl⟩
      · rintro σ' H4 ⟨ks', rfl, s4, t4, hf4, ht4, eks⟩
        refine ⟨_, rfl, .inl ⟨rfl, _, SqL.of ht4⟩, _, rfl, _, k0, rfl, hx3.keep t4, fun b1 xs1 H5 s5 hb1 ats1 => ?_⟩
        refine ⟨_, rfl, rfl, b1, xs1, rfl, SqT.of hb1, fun p hp => ?_⟩
        have t5 : TK H4 H5 := tk_same s5
        have npt : td ≠ p := ne_of_none (s5 _ _ ht4) hp
        have npf : fd0 ≠ p := ne_of_none (s5 _ _ hf4) hp
        refine ⟨td, p, ys.reverse, xs1.reverse, rfl, rfl, by rw [upd_ne npt]; exact s5 _ _ ht4, SqT.of upd_same, ?_, ?_⟩
        · rw [List.length_reverse, List.length_reverse, hys3.len, ats1.len]
          have q1 := Kd.sizes_len kl
          have q2 := Kd.sizes_len k0.parts
          have q3 := Kd.size_parts k0
          rw [Kd.sizes] at hlen
          exact Nat.le_of_lt (szl (by omega))
        · have t6 : TK H5 (upd H5 p (.tup xs1.reverse)) := tk_new hp
          have ht6 : upd H5 p (.tup xs1.reverse) td = some (.lst ys.reverse) := by rw [upd_ne npt]; exact s5 _ _ ht4
          have hf6 : upd H5 p (.tup xs1.reverse) fd0 = some (.dK (setOf ks')) := by rw [upd_ne npf]; exact s5 _ _ hf4
          have s45 : Same H H5 := fun b o e => s5 _ _ (s4 b o e)
          have s6 : Same H (upd H5 p (.tup xs1.reverse)) := same_upd (s45.free hp) s45 _
          generalize upd H5 p (.tup xs1.reverse) = H6 at t6 ht6 hf6 s6
          refine ⟨_, ks', ys.reverse ++ xs1.reverse, k0.parts ++ kl, ?_, rfl, same_upd htd0 s6 _, ?_, upd_same, ?_, ?_, ?_⟩
          · rw [Kd.sizes_app, Kd.sizes, ← Kd.size_parts k0]
            omega
          · rw [upd_ne nft]
            exact hf6
          · rw [List.reverse_append, List.reverse_reverse, List.reverse_reverse]
            have t7 := tk_list (o := .lst (ys.reverse ++ xs1.reverse)) ht6
            exact Kd.Ats.app (ats1.keep (t6.trans t7)) (hys3.keep (t4.trans (t5.trans (t6.trans t7))))
          · have := own_len k0 wd ks
            rw [← eks] at this
            rw [Kd.sizes_app]
            rw [Kd.sizes, ← Kd.size_parts k0] at hlen
            omega
          · rw [← hall, Kd.walk_step, eks]
end
end Toy

set_option Elab.async false
set_option linter.all false
set_option maxRecDepth 100000
set_option maxHeartbeats 4000000
/-! Part D: types put in the place of names, with a list that is worked off. -/
namespace Toy
open PySem L2
open PyProof.Rows (envOfC)
theorem tYes_if {σ : L2.St} {H : Hp} {A B : Hp → Prop} (h : A H) : tYes σ H (fun b H3 => if b = true then A H3 else B H3) := by
  show if true = true then A H else B H
  rw [if_pos rfl]
  exact h
theorem boot_reversed : bootBuiltins "reversed" = some (.type "reversed") := by decide +kernel
theorem Kd.subs_map (f : Str → Kd) : ∀ l : List Kd, Kd.subs f l = l.map (Kd.sub f)
  | [] => rfl
  | k :: l => by rw [Kd.subs, List.map_cons, Kd.subs_map f l]
/-- other types directly in a type -/
def Kd.put : Kd → List Kd → Kd
  | .fn _ _, [a, b] => .fn a b
  | .cn s _, l => .cn s l
  | k, _ => k
theorem Kd.put_sub (f : Str → Kd) : ∀ k : Kd, k.parts ≠ [] → k.put (k.parts.map (Kd.sub f)) = k.sub f
  | .nm s, h => (h rfl).elim
  | .mt i, h => (h rfl).elim
  | .fn a b, _ => rfl
  | .cn s l, _ => by
    show Kd.cn s (l.map (Kd.sub f)) = Kd.cn s (Kd.subs f l)
    rw [Kd.subs_map]
/-- what comes of the tasks, the next one first -/
def fin (f : Str → Kd) : List Kd → List (Kd × Bool) → Option (List Kd)
  | done, [] => some done
  | done, (k, false) :: ts => fin f (done ++ [k.sub f]) ts
  | done, (k, true) :: ts => if k.parts.length ≤ done.length then fin f (done.take (done.length - k.parts.length) ++ [k.put (done.drop (done.length - k.parts.length))]) ts else none
theorem fin_parts (f : Str → Kd) : ∀ (l : List Kd) (done : List Kd) (ts : List (Kd × Bool)), fin f done (l.map (·, false) ++ ts) = fin f (done ++ l.map (Kd.sub f)) ts
  | [], done, ts => by rw [List.map_nil, List.map_nil, List.append_nil, List.nil_append]
  | k :: l, done, ts => by
    rw [List.map_cons, List.map_cons, List.cons_append, fin, fin_parts f l, List.append_assoc, List.singleton_append]
theorem fin_open (f : Str → Kd) (k : Kd) (h : k.parts ≠ []) (done : List Kd) (ts : List (Kd × Bool)) : fin f done (k.parts.map (·, false) ++ ((k, true) :: ts)) = fin f done ((k, false) :: ts) := by
  rw [fin_parts, fin, fin, List.length_append, List.length_map, if_pos (by omega), show done.length + k.parts.length - k.parts.length = done.length by omega, List.take_left', List.drop_left', Kd.put_sub f k h]
  · rfl
  · rfl
def wt : Kd × Bool → Nat
  | (k, false) => 2 * k.size
  | (_, true) => 1
def wts : List (Kd × Bool) → Nat
  | [] => 0
  | t :: ts => wt t + wts ts
theorem wts_app : ∀ a b : List (Kd × Bool), wts (a ++ b) = wts a + wts b
  | [], b => by rw [List.nil_append, wts, Nat.zero_add]
  | t :: a, b => by rw [List.cons_append, wts, wts, wts_app a b, Nat.add_assoc]
theorem wts_parts : ∀ l : List Kd, wts (l.map (·, false)) = 2 * Kd.sizes l
  | [] => rfl
  | k :: l => by
    rw [List.map_cons, wts, wts_parts l, Kd.sizes]
    show 2 * k.size + _ = _
    omega
theorem wts_len : ∀ l : List (Kd × Bool), l.length ≤ wts l
  | [] => Nat.zero_le _
  | (k, false) :: l => by
    have h := wts_len l
    have h2 := Kd.size_parts k
    rw [wts, List.length_cons]
    show _ ≤ 2 * k.size + _
    omega
  | (k, true) :: l => by
    have h := wts_len l
    rw [wts, List.length_cons]
    show _ ≤ 1 + _
    omega
/-- tasks stand at these addresses -/
def TasksAt (H : Hp) : List Addr → List (Kd × Bool) → Prop
  | [], ts => ts = []
  | a :: st, ts => ∃ k b x r, ts = (k, b) :: r ∧ H a = some (.tup [x, .bl b]) ∧ k.At H x ∧ (b = true → k.parts ≠ []) ∧ TasksAt H st r
theorem TasksAt.keep {H H' : Hp} (t : TK H H') : ∀ {st : List Addr} {ts : List (Kd × Bool)}, TasksAt H st ts → TasksAt H' st ts
  | [], _, h => h
  | a :: st, _, ⟨k, b, x, r, e, h1, h2, h3, h4⟩ => ⟨k, b, x, r, e, t _ _ h1, h2.keep t, h3, h4.keep t⟩
theorem TasksAt.len {H : Hp} : ∀ {st : List Addr} {ts : List (Kd × Bool)}, TasksAt H st ts → st.length = ts.length
  | [], _, h => by
    have e : _ = [] := h
    rw [e]
    rfl
  | a :: st, _, ⟨k, b, x, r, e, h1, h2, h3, h4⟩ => by rw [e, List.length_cons, List.length_cons, h4.len]
theorem TasksAt.app {H : Hp} : ∀ {st su : List Addr} {ts us : List (Kd × Bool)}, TasksAt H st ts → TasksAt H su us → TasksAt H (st ++ su) (ts ++ us)
  | [], _, _, _, h, k => by
    have e : _ = [] := h
    subst e
    exact k
  | a :: st, _, _, _, ⟨k, b, x, r, e, h1, h2, h3, h4⟩, g => by
    subst e
    exact ⟨k, b, x, _, rfl, h1, h2, h3, h4.app g⟩
theorem atsTake {H : Hp} : ∀ (n : Nat) {l : List Kd} {xs : List V}, Kd.Ats H l xs → Kd.Ats H (l.take n) (xs.take n)
  | 0, l, xs, _ => by rw [List.take_zero, List.take_zero]; rfl
  | n + 1, [], xs, h => by
    have e : xs = [] := h
    subst e
    rfl
  | n + 1, k :: l, xs, ⟨x, ys, e, h1, h2⟩ => by
    subst e
    exact ⟨x, _, rfl, h1, atsTake n h2⟩
theorem atsDrop {H : Hp} : ∀ (n : Nat) {l : List Kd} {xs : List V}, Kd.Ats H l xs → Kd.Ats H (l.drop n) (xs.drop n)
  | 0, l, xs, h => by rw [List.drop_zero, List.drop_zero]; exact h
  | n + 1, [], xs, h => by
    have e : xs = [] := h
    subst e
    rfl
  | n + 1, k :: l, xs, ⟨x, ys, e, h1, h2⟩ => by
    subst e
    exact atsDrop n h2
theorem atsRev {H : Hp} : ∀ {l : List Kd} {xs : List V}, Kd.Ats H l xs → Kd.Ats H l.reverse xs.reverse
  | [], xs, h => by
    have e : xs = [] := h
    subst e
    rfl
  | k :: l, xs, ⟨x, ys, e, h1, h2⟩ => by
    subst e
    rw [List.reverse_cons, List.reverse_cons]
    exact Kd.Ats.app (atsRev h2) ⟨x, [], rfl, h1, rfl⟩
theorem tasksRev {H : Hp} : ∀ {st : List Addr} {ts : List (Kd × Bool)}, TasksAt H st ts.reverse → TasksAt H st.reverse ts := by
  have go : ∀ {st : List Addr} {ts : List (Kd × Bool)}, TasksAt H st ts → TasksAt H st.reverse ts.reverse := by
    intro st
    induction st with
    | nil =>
      intro ts h
      have e : ts = [] := h
      subst e
      rfl
    | cons a st ih =>
      rintro ts ⟨k, b, x, r, e, h1, h2, h3, h4⟩
      subst e
      rw [List.reverse_cons, List.reverse_cons]
      exact TasksAt.app (ih h4) ⟨k, b, x, [], rfl, h1, h2, h3, rfl⟩
  intro st ts h
  have z := go h
  rwa [List.reverse_reverse] at z
theorem cutN {xs : List V} {n : Nat} (h : n ≤ xs.length) : cutV xs (some (n : Int)) none = xs.drop n := by
  unfold cutV
  rw [HT.sIx_nat, HT.sIx_none, Nat.min_eq_left h]
  exact List.take_of_length_le (by rw [List.length_drop]; omega)
/-- what a row of pairs puts in the place of names -/
def lookF (σ : Sb) (s : Str) : Kd := (σ.lookup s).getD (.nm s)
theorem inj_inr : ∀ s t : Str, (Sum.inr s : Key) = Sum.inr t → s = t := fun _ _ e => Sum.inr.inj e
theorem at2 (x y z : V) (l : List V) : atI (x :: y :: z :: l) 2 = some z := atI_nat (j := 2) rfl
section
variable {P : Program} {w : World} {K : PySem.W.Frag} {mg : Str → Option Value} {base : Heap}
abbrev sWith : Stmt := topS 12
theorem scWith : FnScope ["kind", "parts"] ["kind", "parts"] (defScope sWith) := ⟨rfl, rfl, rfl, by decide +kernel, rfl, by decide +kernel, by decide +kernel⟩
def spWith : Sp := fun vs H Q _ => ∃ (v : V) (pl : Addr) (k : Kd) (l : List Kd) (xs : List V), vs = [v, .ref pl] ∧ k.At H v ∧ H pl = some (.lst xs) ∧ Kd.Ats H l xs ∧ l.length = k.parts.length ∧ k.parts ≠ [] ∧ l.length ≤ 100000 ∧ ∀ (u : V) (H' : Hp), Same H H' → (k.put l).At H' u → Q u H'
theorem c_with {f : Addr} {fd : FuncData} (T : TxtT mg) (F : Fun K "_with_kind_parts" "_with_kind_parts" sWith f fd) (b : Binds K fd ["kind", "parts"] []) (hm : mg "_with_kind_parts" = some (.ref f)) : C8.Cal P w K mg base 1 "_with_kind_parts" spWith [] := by
  refine cal_of F hm b scWith (fun vs H Q E h => ?_) (fun cdv A outer s H vs Q E hr h => ?_)
  · obtain ⟨v, pl, k, l, xs, rfl, _⟩ := h
    rfl
  obtain ⟨v, pl, k, l, xs, rfl, hk, hpl, hats, hlen, hne, hsz, q⟩ := h
  refine ⟨_, (pss_cons (ps_if (pt_cmpR op_eq (pe_ix ix_tup (pv 0) pe_int (fun _ _ => rfl)) pe_str (nomark _))
      (pss_one (ps_ret (pe_tup (pa_cons pe_str (StX.pa_star (pv 1) pa_nil)))))
      pss_nil)
    (pss_one (ps_ret (pe_tup (pa_cons pe_str (pa_cons (pe_ix ix_tup (pv 0) pe_int (fun _ _ => rfl)) (pa_cons (pe_callTy call_tuple_of rfl T.ztuple boot_tuple (pa_cons (pv 1) pa_nil)) pa_nil))))))), ?_⟩
  have hxl := hats.len
  cases k with
  | nm s => exact (hne rfl).elim
  | mt i => exact (hne rfl).elim
  | fn k1 k2 =>
    obtain ⟨a, x, y, rfl, ha, _, _⟩ := hk
    refine ⟨_, rfl, a, _, 0, .str "fun", rfl, rfl, SqT.of ha, at0 _ _, rfl, _, rfl, ?_⟩
    show if decide (V.str "fun" = V.str "fun") = true then _ else _
    rw [show decide (V.str "fun" = V.str "fun") = true from decide_eq_true rfl]
    refine iteT ?_
    match l, hats, hlen with
    | [m1, m2], hats, _ =>
      obtain ⟨u1, _, rfl, g1, u2, _, rfl, g2, e⟩ := hats
      have e : _ = [] := e
      subst e
      refine ⟨_, rfl, pl, _, rfl, .inr (SqL.of hpl), (by show 3 ≤ sizeLine; decide), fun t ht => ?_⟩
      have t1 : TK H (upd H t (.tup [.str "fun", u1, u2])) := tk_new ht
      exact q _ _ (same_new ht _) ⟨t, u1, u2, rfl, upd_same, g1.keep t1, g2.keep t1⟩
    | [], _, h => cases h
    | [_], _, h => cases h
    | _ :: _ :: _ :: _, _, h => cases h
  | cn s m =>
    obtain ⟨a, c, ys, rfl, ha, _, _⟩ := hk
    refine ⟨_, rfl, a, _, 0, .str "con", rfl, rfl, SqT.of ha, at0 _ _, rfl, _, rfl, ?_⟩
    show if decide (V.str "con" = V.str "fun") = true then _ else _
    rw [show decide (V.str "con" = V.str "fun") = false from decide_eq_false fun e => absurd (V.str.inj e) (by decide +kernel)]
    refine iteF ?_
    refine ⟨_, rfl, a, _, 1, .str s, rfl, rfl, SqT.of ha, at1 _ _ _, _, rfl, pl, xs, rfl, .inl ⟨SqL.of hpl, fun p hp => ?_⟩⟩
    have t1 : TK H (upd H p (.tup xs)) := tk_new hp
    refine ⟨(by show 3 ≤ sizeLine; decide), fun t ht => ?_⟩
    have t2 : TK (upd H p (.tup xs)) (upd (upd H p (.tup xs)) t (.tup [.str "con", .str s, .ref p])) := tk_new ht
    exact q _ _ (fun b o e => same_new ht _ _ _ (same_new hp _ _ _ e)) ⟨t, p, xs, rfl, upd_same, t2 _ _ upd_same, hats.keep (t1.trans t2)⟩
abbrev sRepl : Stmt := topS 11
theorem scRepl : FnScope ["kind", "word", "types", "again", "done", "todo", "part", "ready", "below", "start", "inner"] ["kind", "word", "types", "again"] (defScope sRepl) := ⟨rfl, rfl, rfl, by decide +kernel, rfl, by decide +kernel, by decide +kernel⟩
def spRepl : Sp := fun vs H Q _ => ∃ (v : V) (tb : Addr) (k : Kd) (kvs : List (Key × V)) (σ : Sb), vs = [v, .str "name", .ref tb, .bl false] ∧ k.At H v ∧ k.size ≤ 50000 ∧ H tb = some (.dK kvs) ∧ FoundAs Sum.inr H kvs σ ∧ ∀ (u : V) (H' : Hp), Same H H' → (k.sub (lookF σ)).At H' u → Q u H'
theorem c_repl {f : Addr} {fd : FuncData} (T : TxtT mg) (ckind_parts : C8.Cal P w K mg base 1 "kind_parts" (spParts K) []) (c_with_kind_parts : C8.Cal P w K mg base 1 "_with_kind_parts" spWith []) (F : Fun K "replace_leaves" "replace_leaves" sRepl f fd) (b : Binds K fd ["kind", "word", "types", "again"] []) (hm : mg "replace_leaves" = some (.ref f)) : C8.Cal P w K mg base 2 "replace_leaves" spRepl [] := by
  refine cal_of F hm b scRepl (fun vs H Q E h => ?_) (fun cdv A outer s H vs Q E hr h => ?_)
  · obtain ⟨v, tb, k, kvs, σ, rfl, _⟩ := h
    rfl
  obtain ⟨v, tb, k, kvs, σ, rfl, hk, hsz, htb, hF, q⟩ := h
  have hu := hu_of hr
  refine ⟨_, (pss_cons (ps_set (i := 4) scRepl.nd rfl (Or.inl rfl) (pe_lst pa_nil))
    (pss_cons (ps_set (i := 5) scRepl.nd rfl (Or.inl rfl) (pe_lst (pa_cons (pe_tup (pa_cons (pv 0) (pa_cons pe_bl pa_nil))) pa_nil)))
    (pss_cons (ps_while PassesOwn.never (pt_truth (pv 5) (fun _ => rfl))
      (pss_cons (ps_asg (pe_bm0 PySem.F.plainAttrs_list PySem.F.slot_list_pop PySem.F.type_list_pop mt_pop (pv 5)) (pg_tup rfl (pgs_cons (pg_name (i := 6) scRepl.nd rfl (Or.inl rfl)) (pgs_cons (pg_name (i := 7) scRepl.nd rfl (Or.inl rfl)) pgs_nil))))
    (pss_cons (ps_set (i := 8) scRepl.nd rfl (Or.inl rfl) (C8.pe_c ckind_parts hr (by decide) rfl (pa_cons (pv 6) pa_nil)))
    (pss_one (ps_if (pt_val (pv 7))
      (pss_cons (ps_set (i := 9) scRepl.nd rfl (Or.inl rfl) (pe_op op_sub (pe_callB call_len_seq rfl T.zlen PySem.boot_len (pa_cons (pv 4) pa_nil)) (pe_callB call_len_seq rfl T.zlen PySem.boot_len (pa_cons (pv 8) pa_nil))))
    (pss_one (ps_tail (pv 4) (pv 9) (pe_lst (pa_cons (C8.pe_c c_with_kind_parts hr (by decide) rfl (pa_cons (pv 6) (pa_cons (pe_slice sl_list (pv 4) (po_some (pv 9)) po_none) pa_nil))) pa_nil)))))
      (pss_one (ps_if (pt_truth (pv 8) (fun _ => rfl))
      (pss_cons (ps_expr (pe_bm PySem.F.plainAttrs_list PySem.F.slot_list_append PySem.F.type_list_append mt_append (pv 5) (pa_cons (pe_tup (pa_cons (pv 6) (pa_cons pe_bl pa_nil))) pa_nil)))
    (pss_one (ps_expr (pe_bm PySem.F.plainAttrs_list PySem.F.slot_list_extend PySem.F.type_list_extend mt_extend (pv 5) (pa_cons (pe_lc (own := [("inner", 10)]) (g := gName 10) (tt := tYes) rfl scRepl.nd (pi_tup (pe_rev (pv 8) (pe_un un_neg pe_int) (fun _ _ => by with_unfolding_all rfl))) (blkOk_by (own := [("inner", 10)]) (N := ["kind", "word", "types", "again", "done", "todo", "part", "ready", "below", "start", "inner"]) (sc := defScope sRepl) (by decide +kernel)) (fun _ _ _ _ _ => (pg_name (i := 10) scRepl.nd rfl (Or.inl rfl))) (fun _ _ _ _ _ => pts_nil) (fun _ _ _ _ _ => (pe_tup (pa_cons (pv 10) (pa_cons pe_bl pa_nil))))) pa_nil)))))
      (pss_one (ps_if (PW.pt (pw_or (pt_cmpR op_ne (pe_ix ix_tup (pv 6) pe_int (fun _ _ => rfl)) (pv 1) (nomark _)) (pw_or1 (pt_cmp (pc_dnotin hu (pe_ix ix_tup (pv 6) pe_int (fun _ _ => rfl)) (pv 2))))))
      (pss_one (ps_expr (pe_bm PySem.F.plainAttrs_list PySem.F.slot_list_append PySem.F.type_list_append mt_append (pv 4) (pa_cons (pv 6) pa_nil))))
      (pss_one (ps_if (pt_val (pv 3))
      (pss_one (ps_expr (pe_bm PySem.F.plainAttrs_list PySem.F.slot_list_append PySem.F.type_list_append mt_append (pv 5) (pa_cons (pe_tup (pa_cons (pe_dget hu (pv 2) (pe_ix ix_tup (pv 6) pe_int (fun _ _ => rfl)) (fun _ _ => rfl)) (pa_cons pe_bl pa_nil))) pa_nil))))
      (pss_one (ps_expr (pe_bm PySem.F.plainAttrs_list PySem.F.slot_list_append PySem.F.type_list_append mt_append (pv 4) (pa_cons (pe_dget hu (pv 2) (pe_ix ix_tup (pv 6) pe_int (fun _ _ => rfl)) (fun _ _ => rfl)) pa_nil)))))))))))))))
    (pss_one (ps_ret (pe_ix ix_list (pv 4) pe_int (fun _ _ => rfl))))))), ?_⟩
  refine ⟨by show 0 ≤ sizeLine; decide, fun dn hdn => ?_⟩
  have s1 := same_new hdn (.lst [])
  have e1 : upd H dn (.lst []) dn = some (.lst []) := upd_same
  generalize upd H dn (.lst []) = H1 at s1 e1 ⊢
  refine ⟨_, rfl, by show 2 ≤ sizeLine; decide, fun tp htp => ?_⟩
  have s2 := same_new htp (.tup [v, .bl false])
  have e2 : upd H1 tp (.tup [v, .bl false]) tp = some (.tup [v, .bl false]) := upd_same
  generalize upd H1 tp (.tup [v, .bl false]) = H2 at s2 e2 ⊢
  refine ⟨by show 1 ≤ sizeLine; decide, fun td htd => ?_⟩
  have s3 := same_new htd (.lst [.ref tp])
  have e3 : upd H2 td (.lst [.ref tp]) td = some (.lst [.ref tp]) := upd_same
  have ndt : dn ≠ td := ne_of_none (s2 _ _ e1) htd
  generalize upd H2 td (.lst [.ref tp]) = H3 at s3 e3 ⊢
  have s03 : Same H H3 := fun b o e => s3 _ _ (s2 _ _ (s1 _ _ e))
  have hdn0 : H dn = none := hdn
  have htd0 : H td = none := s1.free (s2.free htd)
  have t03 : TK H H3 := tk_same s03
  refine ⟨fun n σ' H4 => ∃ (v6 v7 v8 v9 v10 : Option V) (dl : List Kd) (dv : List V) (st : List Addr) (ts : List (Kd × Bool)), n = wts ts ∧ σ' = [some v, some (.str "name"), some (.ref tb), some (.bl false), some (.ref dn), some (.ref td), v6, v7, v8, v9, v10] ∧ Same H H4 ∧ H4 dn = some (.lst dv) ∧ Kd.Ats H4 dl dv ∧ H4 td = some (.lst (st.reverse.map V.ref)) ∧ TasksAt H4 st ts ∧ dl.length + wts ts ≤ 2 * k.size ∧ fin (lookF σ) dl ts = some [k.sub (lookF σ)],
    ⟨_, none, none, none, none, none, [], [], [tp], [(k, false)], rfl, rfl, s03, s3 _ _ (s2 _ _ e1), rfl, e3, ⟨k, false, v, [], rfl, s3 _ _ e2, hk.keep t03, (fun h => by cases h), rfl⟩, (by show 0 + (2 * k.size + 0) ≤ _; omega), rfl⟩, ?_⟩
  rintro n σ' H4 ⟨v6, v7, v8, v9, v10, dl, dv, st, ts, rfl, rfl, s4, hdn4, hat4, htd4, htk, hbd, hfin⟩
  refine ⟨_, rfl, _, .inl ⟨_, SqL.of htd4, rfl⟩, ?_⟩
  have hdl := hat4.len
  have t04 : TK H H4 := tk_same s4
  cases st with
  | nil =>
    refine iteF ?_
    have ets : ts = [] := htk
    subst ets
    have edl : dl = [k.sub (lookF σ)] := Option.some.inj hfin
    subst edl
    obtain ⟨u, us, rfl, hu1, e⟩ := hat4
    refine ⟨_, rfl, dn, _, 0, u, rfl, rfl, SqL.of hdn4, at0 _ _, ?_⟩
    exact q u H4 s4 hu1
  | cons a1 st =>
    obtain ⟨kk, bb, x, r, rfl, ha1, hx, hbb, hr⟩ := htk
    have ne : (!((a1 :: st).reverse.map V.ref).isEmpty) = true := by rw [List.reverse_cons, List.map_append]; cases st.reverse.map V.ref <;> rfl
    rw [ne]
    refine iteT ?_
    refine ⟨fun σ' H' => ∃ (v6 v7 v8 v9 v10 : Option V) (dl : List Kd) (dv : List V) (st : List Addr) (ts : List (Kd × Bool)), wts ts < wts ((kk, bb) :: r) ∧ σ' = [some v, some (.str "name"), some (.ref tb), some (.bl false), some (.ref dn), some (.ref td), v6, v7, v8, v9, v10] ∧ Same H H' ∧ H' dn = some (.lst dv) ∧ Kd.Ats H' dl dv ∧ H' td = some (.lst (st.reverse.map V.ref)) ∧ TasksAt H' st ts ∧ dl.length + wts ts ≤ 2 * k.size ∧ fin (lookF σ) dl ts = some [k.sub (lookF σ)],
      fun σ' H' ⟨v6, v7, v8, v9, v10, dl, dv, st, ts, lt, rest⟩ => ⟨_, lt, v6, v7, v8, v9, v10, dl, dv, st, ts, rfl, rest⟩, ?_⟩
    refine ⟨_, rfl, .inl ⟨rfl, _, SqL.of htd4⟩, td, _, .ref a1, rfl, rfl, htd4, by rw [List.reverse_cons, List.map_append]; simp, a1, [x, .bl bb], rfl, ?_, rfl, _, _, rfl, _, _, rfl, rfl, ?_⟩
    · exact SqT.of (tk_list htd4 _ _ ha1)
    have eD : ((a1 :: st).reverse.map V.ref).dropLast = st.reverse.map V.ref := by rw [List.reverse_cons, List.map_append]; exact List.dropLast_concat
    rw [eD]
    have t5 : TK H4 (upd H4 td (.lst (st.reverse.map V.ref))) := tk_list htd4
    have s5 : Same H (upd H4 td (.lst (st.reverse.map V.ref))) := same_upd htd0 s4 _
    have htd5 : upd H4 td (.lst (st.reverse.map V.ref)) td = some (.lst (st.reverse.map V.ref)) := upd_same
    have hdn5 : upd H4 td (.lst (st.reverse.map V.ref)) dn = some (.lst dv) := by rw [upd_ne ndt]; exact hdn4
    generalize upd H4 td (.lst (st.reverse.map V.ref)) = H5 at t5 s5 htd5 hdn5
    have hx5 := hx.keep t5
    have hat5 := hat4.keep t5
    have hr5 := hr.keep t5
    refine ⟨_, rfl, x, kk, rfl, hx5, fun b1 xs1 H6 s6 hb1 ats1 => ?_⟩
    have t6 : TK H5 H6 := tk_same s6
    have s06 : Same H H6 := fun b o e => s6 _ _ (s5 _ _ e)
    have hdn6 := s6 _ _ hdn5
    have htd6 := s6 _ _ htd5
    have hxl1 := ats1.len
    have hrl := hr5.len
    have wl := wts_len r
    have ekk := Kd.size_parts kk
    refine ⟨_, rfl, bb, rfl, ?_⟩
    cases bb with
    | true =>
      refine iteT ?_
      have hne := hbb rfl
      have hpl : 1 ≤ kk.parts.length := by
        cases h : kk.parts with
        | nil => exact (hne h).elim
        | cons _ _ => rw [List.length_cons]; omega
      rw [fin] at hfin
      by_cases hle : kk.parts.length ≤ dl.length
      · rw [if_pos hle] at hfin
        have eN : ((dv.length : Int) - (xs1.length : Int)) = ((dl.length - kk.parts.length : Nat) : Int) := by omega
        refine ⟨_, rfl, dn, dv, rfl, .inl (SqL.of hdn6), _, rfl, b1, xs1, rfl, .inr (SqT.of hb1), _, _, rfl, rfl, ?_⟩
        refine ⟨_, rfl, _, rfl, _, rfl, _, rfl, dn, dv, rfl, SqL.of hdn6, fun p1 hp1 => ?_⟩
        rw [eN, cutN (show dl.length - kk.parts.length ≤ dv.length by omega)]
        have t7 : TK H6 (upd H6 p1 (.lst (dv.drop (dl.length - kk.parts.length)))) := tk_new hp1
        have s7 := same_new hp1 (.lst (dv.drop (dl.length - kk.parts.length)))
        have e7 : upd H6 p1 (.lst (dv.drop (dl.length - kk.parts.length))) p1 = some (.lst (dv.drop (dl.length - kk.parts.length))) := upd_same
        generalize upd H6 p1 (.lst (dv.drop (dl.length - kk.parts.length))) = H7 at t7 s7 e7 ⊢
        have wk : wts ((kk, true) :: r) = 1 + wts r := rfl
        refine ⟨x, p1, kk, dl.drop (dl.length - kk.parts.length), dv.drop (dl.length - kk.parts.length), rfl, hx5.keep (t6.trans t7), e7, atsDrop _ (hat5.keep (t6.trans t7)), by rw [List.length_drop]; omega, hne, by rw [List.length_drop]; omega, fun u H8 s8 hu8 => ?_⟩
        refine ⟨by show 1 ≤ sizeLine; decide, fun lb hlb => ?_⟩
        have s9 := same_new hlb (.lst [u])
        have e9 : upd H8 lb (.lst [u]) lb = some (.lst [u]) := upd_same
        have ndl : dn ≠ lb := ne_of_none (s8 _ _ (s7 _ _ hdn6)) hlb
        generalize upd H8 lb (.lst [u]) = H9 at s9 e9 ⊢
        have s69 : Same H6 H9 := fun b o e => s9 _ _ (s8 _ _ (s7 _ _ e))
        have t69 := tk_same s69
        refine ⟨_, rfl, _, rfl, dn, lb, dv, [u], dl.length - kk.parts.length, rfl, rfl, (by show V.int ((dv.length : Int) - (xs1.length : Int)) = _; rw [eN]), s69 _ _ hdn6, e9, ndl, by omega, (by show dv.length + 1 ≤ _; exact Nat.le_of_lt (szl (by omega))), ?_⟩
        have t10 : TK H9 (upd H9 dn (.lst (dv.take (dl.length - kk.parts.length) ++ [u]))) := tk_list (s69 _ _ hdn6)
        refine ⟨_, _, _, _, _, dl.take (dl.length - kk.parts.length) ++ [kk.put (dl.drop (dl.length - kk.parts.length))], dv.take (dl.length - kk.parts.length) ++ [u], st, r, (by show wts r < 1 + wts r; omega), rfl, same_upd hdn0 (fun b o e => s69 _ _ (s06 _ _ e)) _, upd_same, ?_, ?_, ?_, ?_, hfin⟩
        · exact Kd.Ats.app (atsTake _ (hat5.keep (t6.trans (t69.trans t10)))) ⟨u, [], rfl, (hu8.keep (tk_same s9)).keep t10, rfl⟩
        · rw [upd_ne ndt.symm]
          exact s69 _ _ htd6
        · exact hr5.keep (t6.trans (t69.trans t10))
        · have z : wts ((kk, true) :: r) = 1 + wts r := rfl
          rw [List.length_append, List.length_take, List.length_singleton]
          omega
      · rw [if_neg hle] at hfin
        cases hfin
    | false =>
      refine iteF ?_
      have ewt : wts ((kk, false) :: r) = 2 * kk.size + wts r := rfl
      refine ⟨_, rfl, _, .inr (.inl ⟨xs1, SqT.of hb1, rfl⟩), ?_⟩
      by_cases hne : kk.parts = []
      · have ex1 : xs1 = [] := List.length_eq_zero_iff.mp (by rw [hxl1, hne]; rfl)
        subst ex1
        refine iteF ?_
        have app : ∀ (u : V) (H7 : Hp), Same H6 H7 → (kk.sub (lookF σ)).At H7 u → dv.length < sizeLine ∧ (Same H (upd H7 dn (.lst (dv ++ [u]))) ∧ Kd.Ats (upd H7 dn (.lst (dv ++ [u]))) (dl ++ [kk.sub (lookF σ)]) (dv ++ [u]) ∧ upd H7 dn (.lst (dv ++ [u])) td = some (.lst (st.reverse.map V.ref)) ∧ TasksAt (upd H7 dn (.lst (dv ++ [u]))) st r ∧ (dl ++ [kk.sub (lookF σ)]).length + wts r ≤ 2 * k.size ∧ fin (lookF σ) (dl ++ [kk.sub (lookF σ)]) r = some [k.sub (lookF σ)]) := fun u H7 s7 hu7 => by
          have t7 : TK H6 H7 := tk_same s7
          have t8 : TK H7 (upd H7 dn (.lst (dv ++ [u]))) := tk_list (s7 _ _ hdn6)
          refine ⟨szl (by omega), same_upd hdn0 (fun b o e => s7 _ _ (s06 _ _ e)) _, Kd.Ats.app (hat5.keep (t6.trans (t7.trans t8))) ⟨u, [], rfl, hu7.keep t8, rfl⟩, ?_, hr5.keep (t6.trans (t7.trans t8)), ?_, ?_⟩
          · rw [upd_ne ndt.symm]
            exact s7 _ _ htd6
          · rw [List.length_append, List.length_singleton]
            omega
          · rw [fin] at hfin
            exact hfin
        have lt : wts r < wts ((kk, false) :: r) := by omega
        have hx6 := hx5.keep t6
        cases kk with
        | nm s =>
          obtain ⟨a2, rfl, ha2⟩ := hx6
          refine ⟨_, rfl, a2, _, 0, .str "name", rfl, rfl, SqT.of ha2, at0 _ _, _, rfl, rfl, _, rfl, ?_⟩
          show if (!decide (V.str "name" = V.str "name")) = true then _ else _
          rw [show decide (V.str "name" = V.str "name") = true from decide_eq_true rfl]
          refine iteF ?_
          have htb6 := s06 _ _ htb
          refine ⟨_, rfl, a2, _, 1, .str s, rfl, rfl, SqT.of ha2, at1 _ _ _, _, rfl, tb, _, rfl, DGet.k (k := Sum.inr s) htb6, _, rfl, ?_⟩
          rcases (hF.keep (tk_same s06)).look inj_inr s with ⟨l1, l2⟩ | ⟨m, v', l1, l2, hm⟩
          · rw [l2]
            refine iteT ?_
            have es : (Kd.nm s).sub (lookF σ) = .nm s := by show (σ.lookup s).getD (.nm s) = .nm s; rw [l1]; rfl
            obtain ⟨g0, g1⟩ := app (.ref a2) H6 (fun _ _ e => e) (by rw [es]; exact ⟨a2, rfl, ha2⟩)
            refine ⟨_, rfl, .inl ⟨rfl, _, SqL.of hdn6⟩, _, rfl, dn, _, _, rfl, rfl, hdn6, g0, ?_⟩
            exact ⟨_, _, _, _, _, _, _, st, r, lt, rfl, g1.1, upd_same, g1.2⟩
          · rw [l2]
            refine iteF ?_
            have es : (Kd.nm s).sub (lookF σ) = m := by show (σ.lookup s).getD (.nm s) = m; rw [l1]; rfl
            obtain ⟨g0, g1⟩ := app v' H6 (fun _ _ e => e) (by rw [es]; exact hm)
            refine ⟨_, rfl, _, rfl, ?_⟩
            refine iteF ?_
            refine ⟨_, rfl, .inl ⟨rfl, _, SqL.of hdn6⟩, _, rfl, _, rfl, a2, _, 1, .str s, rfl, rfl, SqT.of ha2, at1 _ _ _, tb, v', rfl, l2 ▸ DGet.k (k := Sum.inr s) htb6, dn, _, _, rfl, rfl, hdn6, g0, ?_⟩
            exact ⟨_, _, _, _, _, _, _, st, r, lt, rfl, g1.1, upd_same, g1.2⟩
        | mt i =>
          obtain ⟨a2, rfl, ha2⟩ := hx6
          refine ⟨_, rfl, a2, _, 0, .str "meta", rfl, rfl, SqT.of ha2, at0 _ _, _, rfl, rfl, _, rfl, ?_⟩
          show if (!decide (V.str "meta" = V.str "name")) = true then _ else _
          rw [show decide (V.str "meta" = V.str "name") = false from decide_eq_false fun e => absurd (V.str.inj e) (by decide +kernel)]
          refine iteT (iteT ?_)
          obtain ⟨g0, g1⟩ := app (.ref a2) H6 (fun _ _ e => e) ⟨a2, rfl, ha2⟩
          refine ⟨_, rfl, .inl ⟨rfl, _, SqL.of hdn6⟩, _, rfl, dn, _, _, rfl, rfl, hdn6, g0, ?_⟩
          exact ⟨_, _, _, _, _, _, _, st, r, lt, rfl, g1.1, upd_same, g1.2⟩
        | fn k1 k2 => cases hne
        | cn s l =>
          have el : l = [] := hne
          subst el
          obtain ⟨a2, c2, ys2, rfl, ha2, hc2, hy2⟩ := hx6
          refine ⟨_, rfl, a2, _, 0, .str "con", rfl, rfl, SqT.of ha2, at0 _ _, _, rfl, rfl, _, rfl, ?_⟩
          show if (!decide (V.str "con" = V.str "name")) = true then _ else _
          rw [show decide (V.str "con" = V.str "name") = false from decide_eq_false fun e => absurd (V.str.inj e) (by decide +kernel)]
          refine iteT (iteT ?_)
          obtain ⟨g0, g1⟩ := app (.ref a2) H6 (fun _ _ e => e) ⟨a2, c2, ys2, rfl, ha2, hc2, hy2⟩
          refine ⟨_, rfl, .inl ⟨rfl, _, SqL.of hdn6⟩, _, rfl, dn, _, _, rfl, rfl, hdn6, g0, ?_⟩
          exact ⟨_, _, _, _, _, _, _, st, r, lt, rfl, g1.1, upd_same, g1.2⟩
      · have hxne : (!xs1.isEmpty) = true := by
          cases xs1 with
          | nil => exact (hne (List.length_eq_zero_iff.mp hxl1.symm)).elim
          | cons _ _ => rfl
        rw [hxne]
        refine iteT ?_
        refine ⟨_, rfl, .inl ⟨rfl, _, SqL.of htd6⟩, _, rfl, by show 2 ≤ sizeLine; decide, fun tq htq => ?_⟩
        have s7 := same_new htq (.tup [x, .bl true])
        have e7 : upd H6 tq (.tup [x, .bl true]) tq = some (.tup [x, .bl true]) := upd_same
        generalize upd H6 tq (.tup [x, .bl true]) = H7 at s7 e7 ⊢
        refine ⟨td, _, _, rfl, rfl, s7 _ _ htd6, (by rw [List.length_map, List.length_reverse]; exact szl (by omega)), ?_⟩
        have t7 : TK H6 H7 := tk_same s7
        have s07 : Same H H7 := fun b o e => s7 _ _ (s06 _ _ e)
        have t8 : TK H7 (upd H7 td (.lst (st.reverse.map V.ref ++ [.ref tq]))) := tk_list (s7 _ _ htd6)
        have s08 : Same H (upd H7 td (.lst (st.reverse.map V.ref ++ [.ref tq]))) := same_upd htd0 s07 _
        have htd8 : upd H7 td (.lst (st.reverse.map V.ref ++ [.ref tq])) td = some (.lst (st.reverse.map V.ref ++ [.ref tq])) := upd_same
        have hdn8 : upd H7 td (.lst (st.reverse.map V.ref ++ [.ref tq])) dn = some (.lst dv) := by rw [upd_ne ndt]; exact s7 _ _ hdn6
        generalize upd H7 td (.lst (st.reverse.map V.ref ++ [.ref tq])) = H8 at t8 s08 htd8 hdn8 ⊢
        have t68 := t7.trans t8
        refine ⟨_, rfl, .inl ⟨rfl, _, SqL.of htd8⟩, _, rfl, _, rfl, rfl, b1, xs1, rfl, SqT.of (t68 _ _ hb1), fun rp hrp => ?_⟩
        have s9 := same_new hrp (.tup xs1.reverse)
        have e9 : upd H8 rp (.tup xs1.reverse) rp = some (.tup xs1.reverse) := upd_same
        generalize upd H8 rp (.tup xs1.reverse) = H9 at s9 e9 ⊢
        have t9 := tk_same s9
        have ats9 := ats1.keep (t68.trans t9)
        have atsR := atsRev ats9
        refine ⟨rp, rfl, ⟨_, SqT.of e9⟩, fun D hD => ?_⟩
        refine lc_tup (K := K) (a := rp) (xs := xs1.reverse) (fun i G => ∃ bs : List Addr, G D = some (.lst (bs.map V.ref)) ∧ bs.length = i ∧ Same H9 G ∧ TasksAt G bs ((kk.parts.reverse.take i).map (·, false))) ⟨[], upd_same, rfl, same_new hD _, rfl⟩ (fun i G hi ⟨bs, h1, h2, h3, h4⟩ => SqT.of (h3 _ _ e9)) ?_ ?_
        · rintro i y G hy ⟨bs, h1, h2, h3, h4⟩
          obtain ⟨ki, hki, hat⟩ := Kd.Ats.get i atsR hy
          have hil : i < kk.parts.reverse.length := (List.getElem?_eq_some_iff.mp hki).1
          refine ⟨rfl, ?_⟩
          refine tYes_if ?_
          refine ⟨_, rfl, by show 2 ≤ sizeLine; decide, fun tq2 htq2 => ?_⟩
          have s10 := same_new htq2 (.tup [y, .bl false])
          have e10 : upd G tq2 (.tup [y, .bl false]) tq2 = some (.tup [y, .bl false]) := upd_same
          generalize upd G tq2 (.tup [y, .bl false]) = G2 at s10 e10 ⊢
          have z1 := Kd.sizes_len kk.parts
          rw [List.length_reverse] at hil
          have t11 : TK G2 (upd G2 D (.lst (bs.map V.ref ++ [.ref tq2]))) := tk_list (s10 _ _ h1)
          refine ⟨bs.map V.ref, s10 _ _ h1, (by rw [List.length_map]; exact szl (by omega)), bs ++ [tq2], (by rw [upd_same, List.map_append]; rfl), by rw [List.length_append, h2]; rfl, same_upd hD (fun b o e => s10 _ _ (h3 _ _ e)) _, ?_⟩
          rw [List.take_add_one, hki, List.map_append]
          exact TasksAt.app (h4.keep ((tk_same s10).trans t11)) ⟨ki, false, y, [], rfl, t11 _ _ e10, hat.keep ((tk_same (fun b o e => s10 _ _ (h3 _ _ e))).trans t11), (fun h => by cases h), rfl⟩
        · rintro G ⟨bs, h1, h2, h3, h4⟩
          have elen : xs1.reverse.length = kk.parts.reverse.length := by rw [List.length_reverse, List.length_reverse, hxl1]
          rw [elen, List.take_length] at h4
          have z1 := Kd.sizes_len kk.parts
          have hbl : bs.length = kk.parts.length := by rw [h2, elen, List.length_reverse]
          refine ⟨td, D, _, _, rfl, rfl, h3 _ _ (s9 _ _ htd8), h1, ?_, ?_⟩
          · rw [List.length_append, List.length_map, List.length_map, List.length_reverse, List.length_singleton]
            exact Nat.le_of_lt (szl (by omega))
          · have tG : TK H9 G := tk_same h3
            have t12 : TK G (upd G td (.lst (st.reverse.map V.ref ++ [.ref tq] ++ bs.map V.ref))) := tk_list (h3 _ _ (s9 _ _ htd8))
            have tAll := t68.trans (t9.trans (tG.trans t12))
            refine ⟨_, _, _, _, _, dl, dv, bs.reverse ++ (tq :: st), kk.parts.map (·, false) ++ ((kk, true) :: r), ?_, rfl, same_upd htd0 (fun b o e => h3 _ _ (s9 _ _ (s08 _ _ e))) _, ?_, ?_, ?_, ?_, ?_, ?_⟩
            · rw [wts_app, wts_parts]
              show _ + (1 + wts r) < _
              omega
            · rw [upd_ne ndt]
              exact h3 _ _ (s9 _ _ hdn8)
            · exact hat5.keep (t6.trans tAll)
            · rw [upd_same, List.reverse_append, List.reverse_cons, List.reverse_reverse, List.map_append, List.map_append]
              rfl
            · refine TasksAt.app (tasksRev ?_) ⟨kk, true, x, r, rfl, (t8.trans (t9.trans (tG.trans t12))) _ _ e7, hx5.keep (t6.trans tAll), fun _ => hne, hr5.keep (t6.trans tAll)⟩
              have em : kk.parts.reverse.map (fun k : Kd => (k, false)) = (kk.parts.map (fun k => (k, false))).reverse := List.map_reverse
              rw [em] at h4
              exact h4.keep t12
            · rw [wts_app, wts_parts]
              show _ + (_ + (1 + wts r)) ≤ _
              omega
            · rw [fin_open _ _ hne]
              exact hfin
end
end Toy

set_option Elab.async false
set_option linter.all false
set_option maxRecDepth 100000
set_option maxHeartbeats 4000000
/-! Part E: the other defs of the program over types; the law's own. -/
namespace Toy
open PySem L2
open PyProof.Rows (envOfC)
theorem boot_str : bootBuiltins "str" = some (.type "str") := by decide +kernel
/-- a loop over reversed(t), t a tuple -/
theorem for_revT {K : PySem.W.Frag} {a : Addr} {xs : List V} {g : TG} {tb : TS} {D : Ends} {σ : L2.St} {H : Hp} (Pv : Nat → L2.St → Hp → Prop) (start : Pv 0 σ H) (stays : ∀ i σ H, i ≤ xs.length → Pv i σ H → SqT K H a xs)
    (turn : ∀ i x σ H, i < xs.length → xs[xs.length - 1 - i]? = some x → Pv i σ H → g x σ H fun σ2 H2 => tb { D with nx := Pv (i + 1), ct := Pv (i + 1), bk := D.nx } σ2 H2) (after : ∀ σ H, Pv xs.length σ H → D.nx σ H) :
    ∃ W : Nat → Nat → L2.St → Hp → Prop, (∃ m, W 0 m σ H) ∧ ∀ i m σ H, W i m σ H →
      ((RT.ItvT K a xs.length).stop i H ∧ D.nx σ H) ∨ ((RT.ItvT K a xs.length).go i H ∧ ∃ N : L2.St → Hp → Prop, (∀ σ' H', N σ' H' → ∃ m', m' < m ∧ W (i + 1) m' σ' H') ∧ ∀ x H', (RT.ItvT K a xs.length).yld i H x H' → g x σ H' fun σ2 H2 => tb { D with nx := N, ct := N, bk := D.nx } σ2 H2) := by
  refine ⟨fun i m σ H => m = xs.length - i ∧ i ≤ xs.length ∧ Pv i σ H, ⟨xs.length, rfl, Nat.zero_le _, start⟩, ?_⟩
  rintro i m σ H ⟨rfl, hi, hp⟩
  have hq := stays i σ H hi hp
  by_cases hlt : i < xs.length
  · refine .inr ⟨⟨hlt, xs, xs[xs.length - 1 - i], hq, List.getElem?_eq_getElem (by omega)⟩, Pv (i + 1), fun σ' H' z => ⟨_, by omega, rfl, hlt, z⟩, fun x H' ⟨e, y⟩ => ?_⟩
    subst e
    exact turn i x σ _ hlt (y xs hq) hp
  · have e : i = xs.length := by omega
    subst e
    exact .inl ⟨Nat.le_refl _, after σ H hp⟩
structure TxtE (mg : Str → Option Value) : Prop where
  ztuple : mg "tuple" = none
  zlen : mg "len" = none
  zreversed : mg "reversed" = none
  zstr : mg "str" = none
  zrange : mg "range" = none
  gLETTERS : ∃ u, mg "LETTERS" = some u ∧ RelV (.str "abcdefghijklmnopqrstuvwxyz") u
/-- the functions from a row of types, one after the other -/
def fnAll (l : List Kd) (k : Kd) : Kd := l.foldr Kd.fn k
theorem fnAll_step {l : List Kd} {k m : Kd} {i : Nat} (hi : i < l.length) (h : l[l.length - 1 - i]? = some m) : Kd.fn m (fnAll (l.drop (l.length - i)) k) = fnAll (l.drop (l.length - (i + 1))) k := by
  have e : l.drop (l.length - (i + 1)) = m :: l.drop (l.length - i) := by
    have z : l.length - (i + 1) < l.length := by omega
    rw [List.drop_eq_getElem_cons z, show l.length - (i + 1) + 1 = l.length - i by omega]
    congr 1
    rw [show l.length - 1 - i = l.length - (i + 1) by omega, List.getElem?_eq_getElem z] at h
    exact Option.some.inj h
  rw [e]
  rfl
section
variable {P : Program} {w : World} {K : PySem.W.Frag} {mg : Str → Option Value} {base : Heap}
abbrev sVars : Stmt := topS 6
theorem scVars : FnScope ["kind"] ["kind"] (defScope sVars) := ⟨rfl, rfl, rfl, by decide +kernel, rfl, by decide +kernel, by decide +kernel⟩
def spLv (K : PySem.W.Frag) (wd : Str) : Sp := fun vs H Q _ => ∃ (v : V) (k : Kd), vs = [v] ∧ k.At H v ∧ k.size ≤ 100000 ∧ ∀ (b : Addr) (H' : Hp), Same H H' → H' b = some (.tup ((addAll [] (k.lv wd)).map kV)) → Q (.ref b) H'
theorem c_vars {f : Addr} {fd : FuncData} (c_leaves : C8.Cal P w K mg base 2 "_leaves" (spLeaves K) []) (F : Fun K "variables_of" "variables_of" sVars f fd) (b : Binds K fd ["kind"] []) (hm : mg "variables_of" = some (.ref f)) : C8.Cal P w K mg base 3 "variables_of" (spLv K "name") [] := by
  refine cal_of F hm b scVars (fun vs H Q E h => ?_) (fun cdv A outer s H vs Q E hr h => ?_)
  · obtain ⟨v, k, rfl, _⟩ := h
    rfl
  obtain ⟨v, k, rfl, hv, hsz, q⟩ := h
  refine ⟨_, (pss_one (ps_ret (C8.pe_c c_leaves hr (by decide) rfl (pa_cons (pv 0) (pa_cons pe_str pa_nil))))), ?_⟩
  exact ⟨_, rfl, _, k, _, rfl, .inl rfl, hv, hsz, fun b H' s hb => q b H' s hb⟩
abbrev sMetas : Stmt := topS 7
theorem scMetas : FnScope ["kind"] ["kind"] (defScope sMetas) := ⟨rfl, rfl, rfl, by decide +kernel, rfl, by decide +kernel, by decide +kernel⟩
theorem c_metas {f : Addr} {fd : FuncData} (c_leaves : C8.Cal P w K mg base 2 "_leaves" (spLeaves K) []) (F : Fun K "metas_of" "metas_of" sMetas f fd) (b : Binds K fd ["kind"] []) (hm : mg "metas_of" = some (.ref f)) : C8.Cal P w K mg base 3 "metas_of" (spLv K "meta") [] := by
  refine cal_of F hm b scMetas (fun vs H Q E h => ?_) (fun cdv A outer s H vs Q E hr h => ?_)
  · obtain ⟨v, k, rfl, _⟩ := h
    rfl
  obtain ⟨v, k, rfl, hv, hsz, q⟩ := h
  refine ⟨_, (pss_one (ps_ret (C8.pe_c c_leaves hr (by decide) rfl (pa_cons (pv 0) (pa_cons pe_str pa_nil))))), ?_⟩
  exact ⟨_, rfl, _, k, _, rfl, .inr rfl, hv, hsz, fun b H' s hb => q b H' s hb⟩
abbrev sNames : Stmt := topS 10
theorem scNames : FnScope ["kind", "types"] ["kind", "types"] (defScope sNames) := ⟨rfl, rfl, rfl, by decide +kernel, rfl, by decide +kernel, by decide +kernel⟩
def spNames : Sp := fun vs H Q _ => ∃ (v : V) (tb : Addr) (k : Kd) (kvs : List (Key × V)) (σ : Sb), vs = [v, .ref tb] ∧ k.At H v ∧ k.size ≤ 50000 ∧ H tb = some (.dK kvs) ∧ FoundAs Sum.inr H kvs σ ∧ ∀ (u : V) (H' : Hp), Same H H' → (k.sub (lookF σ)).At H' u → Q u H'
theorem c_names {f : Addr} {fd : FuncData} (creplace_leaves : C8.Cal P w K mg base 2 "replace_leaves" spRepl []) (F : Fun K "replace_names" "replace_names" sNames f fd) (b : Binds K fd ["kind", "types"] []) (hm : mg "replace_names" = some (.ref f)) : C8.Cal P w K mg base 3 "replace_names" spNames [] := by
  refine cal_of F hm b scNames (fun vs H Q E h => ?_) (fun cdv A outer s H vs Q E hr h => ?_)
  · obtain ⟨v, tb, k, kvs, σ, rfl, _⟩ := h
    rfl
  obtain ⟨v, tb, k, kvs, σ, rfl, hv, hsz, htb, hF, q⟩ := h
  refine ⟨_, (pss_one (ps_ret (C8.pe_c creplace_leaves hr (by decide) rfl (pa_cons (pv 0) (pa_cons pe_str (pa_cons (pv 1) (pa_cons pe_bl pa_nil))))))), ?_⟩
  exact ⟨_, rfl, _, rfl, v, tb, k, kvs, σ, rfl, hv, hsz, htb, hF, fun u H' s hu => q u H' s hu⟩
abbrev sListOf : Stmt := topS 4
theorem scListOf : FnScope ["kind"] ["kind"] (defScope sListOf) := ⟨rfl, rfl, rfl, by decide +kernel, rfl, by decide +kernel, by decide +kernel⟩
def spListOf : Sp := fun vs H Q _ => ∃ (v : V) (k : Kd), vs = [v] ∧ k.At H v ∧ ∀ (u : V) (H' : Hp), Same H H' → (Kd.cn "List" [k]).At H' u → Q u H'
theorem c_listOf {f : Addr} {fd : FuncData} (F : Fun K "list_of" "list_of" sListOf f fd) (b : Binds K fd ["kind"] []) (hm : mg "list_of" = some (.ref f)) : C8.Cal P w K mg base 1 "list_of" spListOf [] := by
  refine cal_of F hm b scListOf (fun vs H Q E h => ?_) (fun cdv A outer s H vs Q E hr h => ?_)
  · obtain ⟨v, k, rfl, _⟩ := h
    rfl
  obtain ⟨v, k, rfl, hv, q⟩ := h
  refine ⟨_, (pss_one (ps_ret (pe_tup (pa_cons pe_str (pa_cons pe_str (pa_cons (pe_tup (pa_cons (pv 0) pa_nil)) pa_nil)))))), ?_⟩
  refine ⟨_, rfl, by show 1 ≤ sizeLine; decide, fun p hp => ?_⟩
  have t1 : TK H (upd H p (.tup [v])) := tk_new hp
  refine ⟨by show 3 ≤ sizeLine; decide, fun t ht => ?_⟩
  have t2 : TK (upd H p (.tup [v])) (upd (upd H p (.tup [v])) t (.tup [.str "con", .str "List", .ref p])) := tk_new ht
  exact q _ _ (fun b o e => same_new ht _ _ _ (same_new hp _ _ _ e)) ⟨t, p, [v], rfl, upd_same, t2 _ _ upd_same, v, [], rfl, hv.keep (t1.trans t2), rfl⟩
abbrev sFunc : Stmt := topS 5
theorem scFunc : FnScope ["arguments", "result", "kind", "argument"] ["arguments", "result"] (defScope sFunc) := ⟨rfl, rfl, rfl, by decide +kernel, rfl, by decide +kernel, by decide +kernel⟩
def spFunc (K : PySem.W.Frag) : Sp := fun vs H Q _ => ∃ (a : Addr) (v : V) (l : List Kd) (k : Kd) (xs : List V), vs = [.ref a, v] ∧ H a = some (.tup xs) ∧ Kd.Ats H l xs ∧ k.At H v ∧ ∀ (u : V) (H' : Hp), Same H H' → (fnAll l k).At H' u → Q u H'
theorem c_func {f : Addr} {fd : FuncData} (T : TxtE mg) (F : Fun K "function" "function" sFunc f fd) (b : Binds K fd ["arguments", "result"] []) (hm : mg "function" = some (.ref f)) : C8.Cal P w K mg base 1 "function" (spFunc K) [] := by
  refine cal_of F hm b scFunc (fun vs H Q E h => ?_) (fun cdv A outer s H vs Q E hr h => ?_)
  · obtain ⟨a, v, l, k, xs, rfl, _⟩ := h
    rfl
  obtain ⟨a, v, l, k, xs, rfl, ha, hats, hk, q⟩ := h
  have hxl := hats.len
  refine ⟨_, (pss_cons (ps_set (i := 2) scFunc.nd rfl (Or.inl rfl) (pv 1))
    (pss_cons (ps_for PassesOwn.never rfl (RT.pi_revA rfl T.zreversed (pv 0)) (pg_name (i := 3) scFunc.nd rfl (Or.inl rfl))
      (pss_one (ps_set (i := 2) scFunc.nd rfl (Or.inl rfl) (pe_tup (pa_cons pe_str (pa_cons (pv 3) (pa_cons (pv 2) pa_nil)))))))
    (pss_one (ps_ret (pv 2))))), ?_⟩
  refine ⟨_, rfl, _, rfl, a, xs, rfl, .inr ⟨SqT.of ha, for_revT (fun (i : Nat) σ H2 => ∃ (u : V) (v3 : Option V), σ = [some (.ref a), some v, some u, v3] ∧ Same H H2 ∧ (fnAll (l.drop (l.length - i)) k).At H2 u)
    ⟨v, none, rfl, fun _ _ e => e, by rw [Nat.sub_zero, List.drop_length]; exact hk⟩ (fun i σ H2 _ ⟨u, v3, _, s2, _⟩ => SqT.of (s2 _ _ ha)) ?_ ?_⟩⟩
  · rintro i x σ H2 hi hx ⟨u, v3, rfl, s2, hu⟩
    obtain ⟨m, hm1, hm2⟩ := Kd.Ats.get (xs.length - 1 - i) hats hx
    refine ⟨_, rfl, _, rfl, by show 3 ≤ sizeLine; decide, fun t ht => ?_⟩
    have t2 := tk_same s2
    have t3 : TK H2 (upd H2 t (.tup [.str "fun", x, u])) := tk_new ht
    rw [hxl] at hm1 hi
    refine ⟨_, _, rfl, same_upd (s2.free ht) s2 _, ?_⟩
    rw [← fnAll_step hi hm1]
    exact ⟨t, x, u, rfl, upd_same, hm2.keep (t2.trans t3), hu.keep t3⟩
  · rintro σ H2 ⟨u, v3, rfl, s2, hu⟩
    rw [hxl, Nat.sub_self, List.drop_zero] at hu
    exact ⟨_, rfl, q u H2 s2 hu⟩
abbrev sVName : Stmt := topS 13
theorem scVName : FnScope ["index", "letter", "turn"] ["index"] (defScope sVName) := ⟨rfl, rfl, rfl, by decide +kernel, rfl, by decide +kernel, by decide +kernel⟩
/-- the name of an index: its letter, then its turn -/
def vnm (c : Nat) (j : Int) : Str := if j = 0 then ⟨#[c]⟩ else ⟨#[c]⟩ ++ toString j
abbrev LET : Str := "abcdefghijklmnopqrstuvwxyz"
theorem let26 : LET.length = 26 := by decide +kernel
theorem letAt {j : Int} (h0 : 0 ≤ j) (h : j < 26) : ∃ c, atI LET.cps.toList j = some c := by
  have hl : LET.cps.toList.length = 26 := by decide +kernel
  have hj : j.toNat < LET.cps.toList.length := by omega
  refine ⟨LET.cps.toList[j.toNat], ?_⟩
  have z : atI LET.cps.toList ((j.toNat : Nat) : Int) = some LET.cps.toList[j.toNat] := atI_nat (List.getElem?_eq_getElem hj)
  rwa [show ((j.toNat : Nat) : Int) = j by omega] at z
theorem empty_app (x : Str) : Str.empty ++ x = x := by
  cases x with
  | mk a =>
    show Str.mk (#[] ++ a) = Str.mk a
    rw [Array.empty_append]
theorem app_len (a b : Str) : (a ++ b).length = a.length + b.length := by
  show (a.cps ++ b.cps).size = _
  rw [Array.size_append]
  rfl
theorem turn_len {j : Int} (h0 : 0 ≤ j) (h : j < 12) : (toString j : Str).length ≤ 20 := by
  have e : j = 0 ∨ j = 1 ∨ j = 2 ∨ j = 3 ∨ j = 4 ∨ j = 5 ∨ j = 6 ∨ j = 7 ∨ j = 8 ∨ j = 9 ∨ j = 10 ∨ j = 11 := by omega
  rcases e with e | e | e | e | e | e | e | e | e | e | e | e <;> (rw [e]; decide +kernel)
def spVName : Sp := fun vs H Q _ => ∃ (i : Int) (c : Nat), vs = [.int i] ∧ 0 ≤ i ∧ i < 300 ∧ atI LET.cps.toList (i % 26) = some c ∧ Q (.str (vnm c (i / 26))) H
theorem c_vname {f : Addr} {fd : FuncData} (T : TxtE mg) (F : Fun K "variable_name" "variable_name" sVName f fd) (b : Binds K fd ["index"] []) (hm : mg "variable_name" = some (.ref f)) : C8.Cal P w K mg base 1 "variable_name" spVName [] := by
  refine cal_of F hm b scVName (fun vs H Q E h => ?_) (fun cdv A outer s H vs Q E hr h => ?_)
  · obtain ⟨i, c, rfl, _⟩ := h
    rfl
  obtain ⟨i, c, rfl, h0, h300, hc, q⟩ := h
  refine ⟨_, (pss_cons (ps_set (i := 1) scVName.nd rfl (Or.inl rfl) (pe_ix ix_str (C8.pe_gc rfl T.gLETTERS) (pe_op op_mod (pv 0) (pe_callB call_len_str rfl T.zlen PySem.boot_len (pa_cons (C8.pe_gc rfl T.gLETTERS) pa_nil))) (fun _ _ => rfl)))
    (pss_cons (ps_set (i := 2) scVName.nd rfl (Or.inl rfl) (pe_op op_fdiv (pv 0) (pe_callB call_len_str rfl T.zlen PySem.boot_len (pa_cons (C8.pe_gc rfl T.gLETTERS) pa_nil))))
    (pss_one (ps_ret (pe_ifExp (pt_cmpR op_eq (pv 2) pe_int (nomark _)) (pv 1) (pe_joined (PJ.cons (pe_fmt (pv 1)) (PJ.cons (pe_fmt (pv 2)) PJ.nil)))))))), ?_⟩
  have hl : LET.length ≤ sizeLine := by rw [let26]; decide
  have e26 : ((LET.length : Nat) : Int) = 26 := by rw [let26]; rfl
  refine ⟨_, rfl, LET, rfl, hl, _, _, rfl, rfl, (by rw [e26]; show (0 : Int) < 26; decide), LET, _, c, rfl, rfl, hl, (by rw [e26]; exact hc), ?_⟩
  refine ⟨_, rfl, LET, rfl, hl, _, _, rfl, rfl, (by rw [e26]; exact ⟨by decide, by decide⟩), ?_⟩
  rw [e26]
  refine ⟨_, rfl, rfl, _, rfl, ?_⟩
  by_cases hz : i / 26 = 0
  · have z : decide (V.int (i / 26) = V.int 0) = true := by rw [hz]; exact decide_eq_true rfl
    show if decide (V.int (i / 26) = V.int 0) = true then _ else _
    rw [z]
    refine iteT ?_
    refine ⟨_, rfl, ?_⟩
    have e : vnm c (i / 26) = ⟨#[c]⟩ := if_pos hz
    rw [e] at q
    exact q
  · have z : decide (V.int (i / 26) = V.int 0) = false := decide_eq_false fun e => hz (V.int.inj e)
    show if decide (V.int (i / 26) = V.int 0) = true then _ else _
    rw [z]
    refine iteF ?_
    refine ⟨_, rfl, .inl ⟨⟨#[c]⟩, rfl, (by show 1 ≤ sizeLine; decide), ⟨#[c]⟩, rfl, (by rw [empty_app]; show 1 ≤ sizeLine; decide), _, rfl, .inr ⟨_, rfl, ?_, _, rfl, ?_, ?_⟩⟩⟩
    · have z := Nat.log2_le_self (i / 26).natAbs
      omega
    · rw [empty_app, app_len]
      have z := turn_len (j := i / 26) (by omega) (by omega)
      exact Nat.le_of_lt (szl (by show 1 + _ ≤ _; omega))
    · have e : vnm c (i / 26) = ⟨#[c]⟩ ++ toString (i / 26) := if_neg hz
      rw [e] at q
      rw [empty_app]
      exact q
end
mutual
/-- the leaves, from left to right -/
def Kd.leaves : Kd → List Kd
  | .nm s => [.nm s]
  | .mt i => [.mt i]
  | .fn a b => a.leaves ++ b.leaves
  | .cn _ l => Kd.leavesL l
def Kd.leavesL : List Kd → List Kd
  | [] => []
  | k :: l => k.leaves ++ Kd.leavesL l
end
mutual
theorem leaves_len : ∀ k : Kd, k.leaves.length ≤ k.size
  | .nm s => Nat.le_refl _
  | .mt i => Nat.le_refl _
  | .fn a b => by
    have h1 := leaves_len a
    have h2 := leaves_len b
    show (a.leaves ++ b.leaves).length ≤ 1 + a.size + b.size
    rw [List.length_append]
    omega
  | .cn s l => by
    have h := leavesL_len l
    show (Kd.leavesL l).length ≤ 1 + Kd.sizes l
    omega
theorem leavesL_len : ∀ l : List Kd, (Kd.leavesL l).length ≤ Kd.sizes l
  | [] => Nat.le_refl _
  | k :: l => by
    have h1 := leaves_len k
    have h2 := leavesL_len l
    show (k.leaves ++ Kd.leavesL l).length ≤ k.size + Kd.sizes l
    rw [List.length_append]
    omega
end
theorem leavesL_app : ∀ a b : List Kd, Kd.leavesL (a ++ b) = Kd.leavesL a ++ Kd.leavesL b
  | [], b => rfl
  | k :: a, b => by rw [List.cons_append, Kd.leavesL, Kd.leavesL, leavesL_app a b, List.append_assoc]
mutual
theorem leaves_lv (w : Str) : ∀ k : Kd, k.lv w = k.leaves.flatMap (Kd.own w)
  | .nm s => by
    show (if w = "name" then [Sum.inr s] else []) = [Kd.nm s].flatMap (Kd.own w)
    rw [List.flatMap_cons, List.flatMap_nil, List.append_nil]
    rfl
  | .mt i => by
    show (if w = "meta" then [Sum.inl i] else []) = [Kd.mt i].flatMap (Kd.own w)
    rw [List.flatMap_cons, List.flatMap_nil, List.append_nil]
    rfl
  | .fn a b => by
    show a.lv w ++ b.lv w = (a.leaves ++ b.leaves).flatMap (Kd.own w)
    rw [List.flatMap_append, leaves_lv w a, leaves_lv w b]
  | .cn s l => leavesL_lv w l
theorem leavesL_lv (w : Str) : ∀ l : List Kd, Kd.lvs w l = (Kd.leavesL l).flatMap (Kd.own w)
  | [] => rfl
  | k :: l => by
    show k.lv w ++ Kd.lvs w l = (k.leaves ++ Kd.leavesL l).flatMap (Kd.own w)
    rw [List.flatMap_append, leaves_lv w k, leavesL_lv w l]
end
def Kd.isLeaf : Kd → Bool
  | .nm _ => true
  | .mt _ => true
  | _ => false
mutual
theorem leaves_leaf : ∀ k : Kd, ∀ m ∈ k.leaves, m.isLeaf = true
  | .nm s, m, h => by rw [List.mem_singleton.mp h]; rfl
  | .mt i, m, h => by rw [List.mem_singleton.mp h]; rfl
  | .fn a b, m, h => (List.mem_append.mp h).elim (leaves_leaf a m) (leaves_leaf b m)
  | .cn s l, m, h => leavesL_leaf l m h
theorem leavesL_leaf : ∀ l : List Kd, ∀ m ∈ Kd.leavesL l, m.isLeaf = true
  | [], m, h => by cases h
  | k :: l, m, h => (List.mem_append.mp h).elim (leaves_leaf k m) (leavesL_leaf l m)
end
theorem size_mem : ∀ {l : List Kd} {c : Kd}, c ∈ l → c.size ≤ Kd.sizes l
  | k :: l, c, hc => by
    rw [Kd.sizes]
    rcases List.mem_cons.mp hc with e | e
    · rw [e]; omega
    · have := size_mem e
      omega
theorem deps_mem : ∀ {l : List Kd} {c : Kd}, c ∈ l → c.dep ≤ Kd.deps l
  | k :: l, c, hc => by
    rw [Kd.deps]
    rcases List.mem_cons.mp hc with e | e
    · rw [e]; omega
    · have := deps_mem e
      omega
theorem wz (a b : Str) (h : (a == b) = false) : decide (V.str a = V.str b) = false := decide_eq_false fun e => by
  have := V.str.inj e
  rw [this, beq_self_eq_true] at h
  cases h
theorem wtt (a : Str) : decide (V.str a = V.str a) = true := decide_eq_true rfl
theorem flat_keys : ∀ ks : List Key, (ks.map kV).all flatV = true
  | [] => rfl
  | k :: ks => by
    rw [List.map_cons, List.all_cons, flat_keys ks, Bool.and_true]
    cases k <;> rfl
theorem flat_key (k : Key) : flatV (kV k) = true := by cases k <;> rfl
theorem eqV_key (a b : Key) : eqV (kV a) (kV b) = true ↔ a = b := by
  cases a with
  | inl i =>
    cases b with
    | inl j =>
      show (i == j) = true ↔ _
      rw [beq_iff_eq]
      exact ⟨fun e => by rw [e], fun e => Sum.inl.inj e⟩
    | inr t => exact ⟨fun e => (by cases e), fun e => (by cases e)⟩
  | inr s =>
    cases b with
    | inl j => exact ⟨fun e => (by cases e), fun e => (by cases e)⟩
    | inr t =>
      show (s == t) = true ↔ _
      rw [beq_iff_eq]
      exact ⟨fun e => by rw [e], fun e => Sum.inr.inj e⟩
theorem inV_keys (k : Key) (ks : List Key) : inV (kV k) (ks.map kV) = true ↔ k ∈ ks := by
  unfold inV
  rw [List.any_eq_true]
  constructor
  · rintro ⟨y, hy, e⟩
    obtain ⟨x, hx, e2⟩ := List.mem_map.mp hy
    rw [← e2, eqV_key] at e
    rw [← e]
    exact hx
  · intro h
    exact ⟨kV k, List.mem_map.mpr ⟨k, h, rfl⟩, (eqV_key k k).mpr rfl⟩
section
variable {P : Program} {w : World} {K : PySem.W.Frag} {mg : Str → Option Value} {base : Heap}
theorem cal_none {x : Str} {st : Stmt} {f : Addr} {fd : FuncData} {ps : List Str} {k : Nat} {sp : Sp} (F : Fun K x x st f fd) (hm : mg x = some (.ref f)) (b : Binds K fd ps []) (no : ∀ vs H Q E, ¬ sp vs H Q E) : C8.Cal P w K mg base k x sp [] :=
  ⟨f, fd, ps, [], ⟨fun vs H Q E h => (no _ _ _ _ h).elim, fun A outer s H args us vs Q E hr e0 hb r hsp => (no _ _ _ _ hsp).elim⟩, hm, F.kp, b, .nil⟩
abbrev sLLeaves : Stmt := topS 19
theorem scLLeaves : FnScope ["kind", "found", "part"] ["kind"] (defScope sLLeaves) := ⟨rfl, rfl, rfl, by decide +kernel, rfl, by decide +kernel, by decide +kernel⟩
def spLLv (n : Nat) : Sp := fun vs H Q _ => ∃ (v : V) (k : Kd), vs = [v] ∧ k.At H v ∧ k.dep < n ∧ k.size ≤ 100000 ∧ ∀ (p : Addr) (xs : List V) (H' : Hp), Same H H' → H p = none → H' p = some (.lst xs) → Kd.Ats H' k.leaves xs → Q (.ref p) H'
theorem c_lleaves {f : Addr} {fd : FuncData} (T : TxtE mg) (F : Fun K "_law_leaves" "_law_leaves" sLLeaves f fd) (b : Binds K fd ["kind"] []) (hm : mg "_law_leaves" = some (.ref f)) : ∀ n : Nat, C8.Cal P w K mg base (n + 1) "_law_leaves" (spLLv n) []
  | 0 => cal_none F hm b fun vs H Q E ⟨v, k, _, _, h, _⟩ => Nat.not_lt_zero _ h
  | n + 1 => by
    have c_law_leaves := c_lleaves T F b hm n
    refine cal_of F hm b scLLeaves (fun vs H Q E h => ?_) (fun cdv A outer s H vs Q E hr h => ?_)
    · obtain ⟨v, k, rfl, _⟩ := h
      rfl
    obtain ⟨v, k, rfl, hk, hdn, hsz, q⟩ := h
    refine ⟨_, (pss_cons (ps_if (pt_cmpR op_eq (pe_ix ix_tup (pv 0) pe_int (fun _ _ => rfl)) pe_str (nomark _))
      (pss_cons (ps_set (i := 1) scLLeaves.nd rfl (Or.inl rfl) (pe_lst pa_nil))
    (pss_cons (ps_for PassesOwn.never rfl (pi_tup (pe_ix ix_tup (pv 0) pe_int (fun _ _ => rfl))) (pg_name (i := 2) scLLeaves.nd rfl (Or.inl rfl))
      (pss_one (ps_set (i := 1) scLLeaves.nd rfl (Or.inl rfl) (pe_op op_cat (pv 1) (C8.pe_c c_law_leaves hr (by omega) rfl (pa_cons (pv 2) pa_nil))))))
    (pss_one (ps_ret (pv 1)))))
      pss_nil)
    (pss_cons (ps_if (pt_cmpR op_eq (pe_ix ix_tup (pv 0) pe_int (fun _ _ => rfl)) pe_str (nomark _))
      (pss_one (ps_ret (pe_op op_cat (C8.pe_c c_law_leaves hr (by omega) rfl (pa_cons (pe_ix ix_tup (pv 0) pe_int (fun _ _ => rfl)) pa_nil)) (C8.pe_c c_law_leaves hr (by omega) rfl (pa_cons (pe_ix ix_tup (pv 0) pe_int (fun _ _ => rfl)) pa_nil)))))
      pss_nil)
    (pss_one (ps_ret (pe_lst (pa_cons (pv 0) pa_nil)))))), ?_⟩
    cases k with
    | nm s =>
      obtain ⟨a, rfl, ha⟩ := hk
      refine ⟨_, rfl, a, _, 0, .str "name", rfl, rfl, SqT.of ha, at0 _ _, rfl, _, rfl, ?_⟩
      show if decide (V.str "name" = V.str "con") = true then _ else _
      rw [wz _ _ sne5]
      refine iteF ?_
      refine ⟨_, rfl, a, _, 0, .str "name", rfl, rfl, SqT.of ha, at0 _ _, rfl, _, rfl, ?_⟩
      show if decide (V.str "name" = V.str "fun") = true then _ else _
      rw [wz _ _ sne3]
      refine iteF ?_
      exact ⟨_, rfl, by show 1 ≤ sizeLine; decide, fun p hp => q p _ _ (same_new hp _) hp upd_same ⟨.ref a, [], rfl, ⟨a, rfl, same_new hp _ _ _ ha⟩, rfl⟩⟩
    | mt i =>
      obtain ⟨a, rfl, ha⟩ := hk
      refine ⟨_, rfl, a, _, 0, .str "meta", rfl, rfl, SqT.of ha, at0 _ _, rfl, _, rfl, ?_⟩
      show if decide (V.str "meta" = V.str "con") = true then _ else _
      rw [wz _ _ sne9]
      refine iteF ?_
      refine ⟨_, rfl, a, _, 0, .str "meta", rfl, rfl, SqT.of ha, at0 _ _, rfl, _, rfl, ?_⟩
      show if decide (V.str "meta" = V.str "fun") = true then _ else _
      rw [wz _ _ sne7]
      refine iteF ?_
      exact ⟨_, rfl, by show 1 ≤ sizeLine; decide, fun p hp => q p _ _ (same_new hp _) hp upd_same ⟨.ref a, [], rfl, ⟨a, rfl, same_new hp _ _ _ ha⟩, rfl⟩⟩
    | fn k1 k2 =>
      obtain ⟨a, x, y, rfl, ha, hx, hy⟩ := hk
      have ed : (Kd.fn k1 k2).dep = 1 + max k1.dep k2.dep := rfl
      have es : (Kd.fn k1 k2).size = 1 + k1.size + k2.size := rfl
      refine ⟨_, rfl, a, _, 0, .str "fun", rfl, rfl, SqT.of ha, at0 _ _, rfl, _, rfl, ?_⟩
      show if decide (V.str "fun" = V.str "con") = true then _ else _
      rw [wz _ _ sne11]
      refine iteF ?_
      refine ⟨_, rfl, a, _, 0, .str "fun", rfl, rfl, SqT.of ha, at0 _ _, rfl, _, rfl, ?_⟩
      show if decide (V.str "fun" = V.str "fun") = true then _ else _
      rw [wtt]
      refine iteT ?_
      refine ⟨_, rfl, a, _, 1, x, rfl, rfl, SqT.of ha, at1 _ _ _, x, k1, rfl, hx, by omega, by omega, fun p1 xs1 H1 s1 hn1 hp1 at1' => ?_⟩
      have t1 := tk_same s1
      refine ⟨_, rfl, a, _, 2, y, rfl, rfl, SqT.of (s1 _ _ ha), at2 _ _ _ _, y, k2, rfl, hy.keep t1, by omega, by omega, fun p2 xs2 H2 s2 hn2 hp2 at2' => ?_⟩
      have t2 := tk_same s2
      have l1 := at1'.len
      have l2 := at2'.len
      have z1 := leaves_len k1
      have z2 := leaves_len k2
      refine ⟨p1, p2, xs1, xs2, rfl, rfl, s2 _ _ hp1, hp2, Nat.le_of_lt (szl (by omega)), fun p hp => ?_⟩
      have t3 : TK H2 (upd H2 p (.lst (xs1 ++ xs2))) := tk_new hp
      exact q p _ _ (fun b o e => same_new hp _ _ _ (s2 _ _ (s1 _ _ e))) (s1.free (s2.free hp)) upd_same (Kd.Ats.app (at1'.keep (t2.trans t3)) (at2'.keep t3))
    | cn s l =>
      obtain ⟨a, c, xs, rfl, ha, hc, hats⟩ := hk
      have ed : (Kd.cn s l).dep = 1 + Kd.deps l := rfl
      have es : (Kd.cn s l).size = 1 + Kd.sizes l := rfl
      have hxl := hats.len
      refine ⟨_, rfl, a, _, 0, .str "con", rfl, rfl, SqT.of ha, at0 _ _, rfl, _, rfl, ?_⟩
      show if decide (V.str "con" = V.str "con") = true then _ else _
      rw [wtt]
      refine iteT ?_
      refine ⟨by show 0 ≤ sizeLine; decide, fun p0 hp0 => ?_⟩
      have s0 := same_new hp0 (.lst [])
      refine ⟨_, rfl, a, _, 2, .ref c, rfl, rfl, SqT.of (s0 _ _ ha), at2 _ _ _ _, c, rfl, ⟨_, SqT.of (s0 _ _ hc)⟩, for_tup (K := K) (a := c) (xs := xs)
        (fun (i : Nat) σ H2 => ∃ (p1 : Addr) (ys : List V) (v2 : Option V), σ = [some (.ref a), some (.ref p1), v2] ∧ Same H H2 ∧ H p1 = none ∧ H2 p1 = some (.lst ys) ∧ Kd.Ats H2 (Kd.leavesL (l.take i)) ys)
        ⟨p0, [], none, rfl, s0, hp0, upd_same, rfl⟩ (fun i σ H2 _ ⟨p1, ys, v2, _, s2, _⟩ => SqT.of (s2 _ _ hc)) ?_ ?_⟩
      · rintro i x σ H2 hx ⟨p1, ys, v2, rfl, s2, hn1, hp1, hys⟩
        obtain ⟨ki, hki, hat⟩ := Kd.Ats.get i hats hx
        have kmem : ki ∈ l := List.mem_of_getElem? hki
        have t2 := tk_same s2
        have z1 := size_mem kmem
        have z2 := deps_mem kmem
        refine ⟨_, rfl, _, rfl, x, ki, rfl, hat.keep t2, by omega, by omega, fun p3 xs3 H3 s3 hn3 hp3 at3 => ?_⟩
        have l1 := hys.len
        have l2 := at3.len
        have z3 := leavesL_len (l.take i)
        have z4 := leaves_len ki
        have z5 : Kd.sizes (l.take i) + ki.size ≤ Kd.sizes l := by
          have z := Kd.sizes_app (l.take (i + 1)) (l.drop (i + 1))
          have z6 : Kd.sizes (l.take (i + 1)) = Kd.sizes (l.take i) + ki.size := by
            rw [List.take_add_one, hki, Kd.sizes_app]
            show _ + (ki.size + 0) = _
            omega
          rw [List.take_append_drop] at z
          omega
        refine ⟨p1, p3, ys, xs3, rfl, rfl, s3 _ _ hp1, hp3, Nat.le_of_lt (szl (by omega)), fun p hp => ?_⟩
        have t3 := tk_same s3
        have t4 : TK H3 (upd H3 p (.lst (ys ++ xs3))) := tk_new hp
        have s23 : Same H H3 := fun b o e => s3 _ _ (s2 _ _ e)
        refine ⟨p, ys ++ xs3, _, rfl, fun b o e => same_new hp _ _ _ (s23 _ _ e), s23.free hp, upd_same, ?_⟩
        have e1 : Kd.leavesL (l.take (i + 1)) = Kd.leavesL (l.take i) ++ ki.leaves := by
          rw [List.take_add_one, hki, leavesL_app]
          show _ ++ (ki.leaves ++ []) = _
          rw [List.append_nil]
        rw [e1]
        exact Kd.Ats.app (hys.keep (t3.trans t4)) (at3.keep t4)
      · rintro σ H2 ⟨p1, ys, v2, rfl, s2, hn1, hp1, hys⟩
        rw [hxl, List.take_length] at hys
        exact ⟨_, rfl, q p1 ys H2 s2 hn1 hp1 hys⟩
abbrev sLFirst : Stmt := topS 20
theorem scLFirst : FnScope ["kind", "word", "found", "leaf"] ["kind", "word"] (defScope sLFirst) := ⟨rfl, rfl, rfl, by decide +kernel, rfl, by decide +kernel, by decide +kernel⟩
def spLFirst (n : Nat) : Sp := fun vs H Q _ => ∃ (v : V) (k : Kd) (wd : Str), vs = [v, .str wd] ∧ (wd = "name" ∨ wd = "meta") ∧ k.At H v ∧ k.dep < n ∧ k.size ≤ 100000 ∧ ∀ (b : Addr) (H' : Hp), Same H H' → H' b = some (.tup ((addAll [] (k.lv wd)).map kV)) → Q (.ref b) H'
theorem c_lfirst {f : Addr} {fd : FuncData} {n : Nat} (T : TxtE mg) (c_law_leaves : C8.Cal P w K mg base (n + 1) "_law_leaves" (spLLv n) []) (F : Fun K "_law_first" "_law_first" sLFirst f fd) (b : Binds K fd ["kind", "word"] []) (hm : mg "_law_first" = some (.ref f)) : C8.Cal P w K mg base (n + 2) "_law_first" (spLFirst n) [] := by
  refine cal_of F hm b scLFirst (fun vs H Q E h => ?_) (fun cdv A outer s H vs Q E hr h => ?_)
  · obtain ⟨v, k, wd, rfl, _⟩ := h
    rfl
  obtain ⟨v, k, wd, rfl, hw, hk, hdn, hsz, q⟩ := h
  refine ⟨_, (pss_cons (ps_set (i := 2) scLFirst.nd rfl (Or.inl rfl) (pe_lst pa_nil))
    (pss_cons (ps_for PassesOwn.never rfl (pi_list (C8.pe_c c_law_leaves hr (by omega) rfl (pa_cons (pv 0) pa_nil))) (pg_name (i := 3) scLFirst.nd rfl (Or.inl rfl))
      (pss_one (ps_if (PW.pt (pw_and (pt_cmpR op_eq (pe_ix ix_tup (pv 3) pe_int (fun _ _ => rfl)) (pv 1) (nomark _)) (pw_and1 (pt_cmpR op_notIn_seq (pe_ix ix_tup (pv 3) pe_int (fun _ _ => rfl)) (pv 2) rfl))))
      (pss_one (ps_expr (pe_bm PySem.F.plainAttrs_list PySem.F.slot_list_append PySem.F.type_list_append mt_append (pv 2) (pa_cons (pe_ix ix_tup (pv 3) pe_int (fun _ _ => rfl)) pa_nil))))
      pss_nil)))
    (pss_one (ps_ret (pe_callTy call_tuple_of rfl T.ztuple boot_tuple (pa_cons (pv 2) pa_nil)))))), ?_⟩
  refine ⟨by show 0 ≤ sizeLine; decide, fun f0 hf0 => ?_⟩
  have s0 := same_new hf0 (.lst [])
  have e0 : upd H f0 (.lst []) f0 = some (.lst []) := upd_same
  generalize upd H f0 (.lst []) = H0 at s0 e0 ⊢
  refine ⟨_, rfl, v, k, rfl, hk.keep (tk_same s0), hdn, hsz, fun p xs H1 s1 hn hp hats => ?_⟩
  have s01 : Same H H1 := fun b o e => s1 _ _ (s0 _ _ e)
  have npf : p ≠ f0 := fun e => by
    rw [e, e0] at hn
    cases hn
  have hll := hats.len
  have hlz := leaves_len k
  refine ⟨p, rfl, ⟨_, SqL.of hp⟩, for_list (K := K) (a := p) (xs := xs)
    (fun (i : Nat) σ H2 => ∃ (ks : List Key) (v3 : Option V), σ = [some v, some (.str wd), some (.ref f0), v3] ∧ Same H H2 ∧ H2 p = some (.lst xs) ∧ H2 f0 = some (.lst (ks.map kV)) ∧ TK H1 H2 ∧ ks = addAll [] ((k.leaves.take i).flatMap (Kd.own wd)) ∧ ks.length ≤ i)
    ⟨[], none, rfl, s01, hp, s1 _ _ e0, TK.refl _, rfl, Nat.le_refl _⟩ ?_ ?_ ?_⟩
  · rintro i σ H2 _ ⟨ks, v3, _, s2, hp2, _⟩
    exact SqL.of hp2
  · rintro i x σ H2 hx ⟨ks, v3, rfl, s2, hp2, hf2, t2, eks, hkl⟩
    obtain ⟨ki, hki, hat⟩ := Kd.Ats.get i hats hx
    have hil : i < k.leaves.length := (List.getElem?_eq_some_iff.mp hki).1
    have hat2 := hat.keep t2
    have etk : (k.leaves.take (i + 1)).flatMap (Kd.own wd) = (k.leaves.take i).flatMap (Kd.own wd) ++ ki.own wd := by
      rw [List.take_add_one, hki, List.flatMap_append]
      show _ ++ (ki.own wd ++ []) = _
      rw [List.append_nil]
    obtain ⟨a, r, rfl, ha⟩ := hat2.tup
    refine ⟨_, rfl, a, _, 0, .str ki.word, rfl, rfl, SqT.of ha, at0 _ _, _, rfl, rfl, _, rfl, ?_⟩
    by_cases hwd : ki.word = wd
    · have z : decide (V.str ki.word = V.str wd) = true := by rw [hwd]; exact decide_eq_true rfl
      show if decide (V.str ki.word = V.str wd) = true then _ else _
      rw [z]
      refine iteT ?_
      obtain ⟨key, eo, hl⟩ := Kd.At.leaf hw hat2 hwd
      refine ⟨_, rfl, a, _, 1, kV key, rfl, rfl, SqT.of hl, at1 _ _ _, _, rfl, f0, ks.map kV, rfl, .inl (SqL.of hf2), flat_key key, flat_keys ks, _, rfl, ?_⟩
      have enew : addAll [] ((k.leaves.take (i + 1)).flatMap (Kd.own wd)) = addK ks key := by
        rw [etk, addAll_app, ← eks, eo]
        rfl
      by_cases hin : key ∈ ks
      · have z2 : inV (kV key) (ks.map kV) = true := (inV_keys key ks).mpr hin
        show if (!inV (kV key) (ks.map kV)) = true then _ else _
        rw [z2]
        refine iteF ?_
        refine ⟨ks, _, rfl, s2, hp2, hf2, t2, ?_, by omega⟩
        rw [enew]
        exact (if_pos hin).symm
      · have z2 : inV (kV key) (ks.map kV) = false := by
          cases h : inV (kV key) (ks.map kV) with
          | false => rfl
          | true => exact (hin ((inV_keys key ks).mp h)).elim
        show if (!inV (kV key) (ks.map kV)) = true then _ else _
        rw [z2]
        refine iteT ?_
        refine ⟨_, rfl, .inl ⟨rfl, _, SqL.of hf2⟩, _, rfl, a, _, 1, kV key, rfl, rfl, SqT.of hl, at1 _ _ _, f0, _, _, rfl, rfl, hf2, (by rw [List.length_map]; exact szl (by omega)), ?_⟩
        refine ⟨ks ++ [key], _, rfl, same_upd hf0 s2 _, (by rw [upd_ne npf]; exact hp2), (by rw [upd_same, List.map_append]; rfl), t2.trans (tk_list hf2), ?_, by rw [List.length_append]; show ks.length + 1 ≤ _; omega⟩
        rw [enew]
        exact (if_neg hin).symm
    · have z : decide (V.str ki.word = V.str wd) = false := decide_eq_false (fun e => hwd (V.str.inj e))
      show if decide (V.str ki.word = V.str wd) = true then _ else _
      rw [z]
      refine iteF (iteF ?_)
      refine ⟨ks, _, rfl, s2, hp2, hf2, t2, ?_, by omega⟩
      rw [etk, addAll_app, ← eks, Kd.own_not hwd]
      rfl
  · rintro σ H2 ⟨ks, v3, rfl, s2, hp2, hf2, t2, eks, hkl⟩
    rw [hll, List.take_length, ← leaves_lv] at eks
    refine ⟨_, rfl, f0, ks.map kV, rfl, .inl ⟨SqL.of hf2, fun u hu => ?_⟩⟩
    refine q u _ (fun b o e => same_new hu _ _ _ (s2 _ _ e)) ?_
    rw [upd_same, eks]
end
end Toy

set_option Elab.async false
set_option linter.all false
set_option maxRecDepth 100000
set_option maxHeartbeats 4000000
/-! Part F: the law's drawing of types, its own replacing. -/
namespace Toy
open PySem L2
open PyProof.Rows (envOfC)
/-- how many parts a type drawn at a depth may have -/
def kS : Nat → Nat
  | 0 => 1
  | d + 1 => 1 + 3 * kS d
theorem kS_pos : ∀ d, 1 ≤ kS d
  | 0 => Nat.le_refl _
  | d + 1 => by show 1 ≤ 1 + 3 * kS d; omega
theorem kS_step (d : Nat) : kS d ≤ kS (d + 1) := by show kS d ≤ 1 + 3 * kS d; omega
theorem kS_le {d e : Nat} (h : d ≤ e) : kS d ≤ kS e := by
  induction h with
  | refl => exact Nat.le_refl _
  | step _ ih => exact Nat.le_trans ih (kS_step _)
theorem kS5 : kS 5 = 364 := by decide
theorem kS2 : kS 2 = 13 := by decide
/-- what is drawn at a depth -/
structure Gk (d : Nat) (k : Kd) : Prop where
  lay : k.lay = true
  dep : k.dep ≤ d
  size : k.size ≤ kS d
theorem gk_nm {d : Nat} {s : Str} (h : PyData.strOk s = true) : Gk d (.nm s) := ⟨h, Nat.zero_le _, kS_pos d⟩
theorem gk_mt {d : Nat} {i : Int} : Gk d (.mt i) := ⟨rfl, Nat.zero_le _, kS_pos d⟩
theorem gk_fn {d : Nat} {a b : Kd} (h : Gk d a) (k : Gk d b) : Gk (d + 1) (.fn a b) := ⟨by show (a.lay && b.lay) = true; rw [h.lay, k.lay]; rfl, by
  have := h.dep
  have := k.dep
  show 1 + max a.dep b.dep ≤ _
  omega, by
  have := h.size
  have := k.size
  show 1 + a.size + b.size ≤ 1 + 3 * kS d
  omega⟩
/-- a row of types, all drawn at a depth -/
structure Gks (d : Nat) (l : List Kd) : Prop where
  lay : Kd.lays l = true
  dep : Kd.deps l ≤ d
  size : Kd.sizes l ≤ l.length * kS d
theorem gks_nil (d : Nat) : Gks d [] := ⟨rfl, Nat.zero_le _, Nat.zero_le _⟩
theorem lays_app : ∀ a b : List Kd, Kd.lays (a ++ b) = (Kd.lays a && Kd.lays b)
  | [], b => rfl
  | k :: a, b => by rw [List.cons_append, Kd.lays, Kd.lays, lays_app a b, Bool.and_assoc]
theorem deps_app : ∀ a b : List Kd, Kd.deps (a ++ b) = max (Kd.deps a) (Kd.deps b)
  | [], b => by show Kd.deps b = max 0 _; omega
  | k :: a, b => by rw [List.cons_append, Kd.deps, Kd.deps, deps_app a b]; omega
theorem gks_snoc {d : Nat} {l : List Kd} {k : Kd} (h : Gks d l) (g : Gk d k) : Gks d (l ++ [k]) := ⟨by
  rw [lays_app, h.lay]
  show (true && (k.lay && true)) = true
  rw [g.lay]
  rfl, by
  have := h.dep
  have := g.dep
  rw [deps_app]
  show max _ (max k.dep 0) ≤ _
  omega, by
  have := h.size
  have := g.size
  rw [Kd.sizes_app, List.length_append, Nat.add_mul]
  show _ + (k.size + 0) ≤ _ + 1 * _
  omega⟩
theorem gk_cn {d : Nat} {s : Str} {l : List Kd} (e : PyData.strOk s = true) (h : Gks d l) (n : l.length ≤ 3) : Gk (d + 1) (.cn s l) := ⟨by show (PyData.strOk s && Kd.lays l) = true; rw [e, h.lay]; rfl, by
  have := h.dep
  show 1 + Kd.deps l ≤ _
  omega, by
  have h1 := h.size
  have h2 : l.length * kS d ≤ 3 * kS d := Nat.mul_le_mul_right _ n
  show 1 + Kd.sizes l ≤ 1 + 3 * kS d
  omega⟩
theorem ok_names : ∀ z ∈ (["a", "b", "c1", "z", "s.3"] : List Str), PyData.strOk z = true := by decide +kernel
theorem ok_cons : ∀ z ∈ (["Int", "List", "Pair", "T"] : List Str), PyData.strOk z = true := by decide +kernel
theorem ok_list : PyData.strOk "List" = true := by decide +kernel
theorem at_str {zs : List Str} {i : Int} (h0 : 0 ≤ i) (h1 : i < (zs.length : Int)) : ∃ z ∈ zs, atI (zs.map V.str) i = some (.str z) := by
  have hk : i.toNat < zs.length := by omega
  refine ⟨zs[i.toNat], List.getElem_mem _, ?_⟩
  have q : atI (zs.map V.str) ((i.toNat : Nat) : Int) = some (.str zs[i.toNat]) := atI_nat (by rw [List.getElem?_map, List.getElem?_eq_getElem hk] <;> rfl)
  rw [show ((i.toNat : Nat) : Int) = i by omega] at q
  exact q
theorem Keep.same {p : Addr} {H H' : Hp} (s : Same H H') : Keep p H H' := fun b o _ e => s b o e
theorem Keep.trans {p : Addr} {H1 H2 H3 : Hp} (h : Keep p H1 H2) (k : Keep p H2 H3) : Keep p H1 H3 := fun b o n e => k b o n (h b o n e)
/-- a store into a list that was not there before -/
theorem keep_upd {p t : Addr} {H H' : Hp} (ht : H t = none) (k : Keep p H H') (o : HO) : Keep p H (upd H' t o) := fun b u n e => by
  have z : b ≠ t := fun q => by rw [q, ht] at e; cases e
  rw [upd_ne z]
  exact k b u n e
/-- a store beside the reader of draws -/
theorem DrawsAt.beside {H : Hp} {p r D : Addr} {ys : List V} (d : DrawsAt H p r) (hD : H D = some (.lst ys)) (np : D ≠ r) (o : HO) : DrawsAt (upd H D o) p r := by
  obtain ⟨row, i, z, g1, g2⟩ := d
  have nq : D ≠ p := fun e => by
    rw [e, g1] at hD
    cases hD
  exact ⟨row, i, z, by rw [upd_ne nq.symm]; exact g1, by rw [upd_ne np.symm]; exact g2⟩
theorem DrawsAt.fresh {H : Hp} {p r D : Addr} (d : DrawsAt H p r) (h : H D = none) : D ≠ p ∧ D ≠ r := by
  obtain ⟨row, i, z, g1, g2⟩ := d
  exact ⟨fun e => (by rw [e, g1] at h; cases h), fun e => (by rw [e, g2] at h; cases h)⟩
section
variable {P : Program} {w : World} {K : PySem.W.Frag} {mg : Str → Option Value} {base : Heap}
abbrev sKind : Stmt := topS 18
theorem scKind : FnScope ["draws", "depth", "pick", "k"] ["draws", "depth"] (defScope sKind) := ⟨rfl, rfl, rfl, by decide +kernel, rfl, by decide +kernel, by decide +kernel⟩
def spKind (n : Nat) : Sp := fun vs H Q _ => ∃ (p r : Addr) (d : Nat), vs = [.ref p, .int (d : Int)] ∧ d < n ∧ DrawsAt H p r ∧ ∀ (v : V) (k : Kd) (H' : Hp), Keep p H H' → DrawsAt H' p r → k.At H' v → Gk d k → Q v H'
theorem c_kind {f : Addr} {fd : FuncData} (T : TxtE mg) (c_law_next : C8.Cal P w K mg base 2 "_law_next" spNext []) (F : Fun K "_law_kind" "_law_kind" sKind f fd) (b : Binds K fd ["draws", "depth"] []) (hm : mg "_law_kind" = some (.ref f)) : ∀ n : Nat, C8.Cal P w K mg base (n + 2) "_law_kind" (spKind n) []
  | 0 => cal_none F hm b fun vs H Q E ⟨p, r, d, _, h, _⟩ => Nat.not_lt_zero _ h
  | n + 1 => by
    have c_law_kind := c_kind T c_law_next F b hm n
    refine cal_of F hm b scKind (fun vs H Q E h => ?_) (fun cdv A outer s H vs Q E hr h => ?_)
    · obtain ⟨p, r, d, rfl, _⟩ := h
      rfl
    obtain ⟨p, r, d, rfl, hdn, hD, q⟩ := h
    refine ⟨_, (pss_cons (ps_set (i := 2) scKind.nd rfl (Or.inl rfl) (C8.pe_c c_law_next hr (by omega) rfl (pa_cons (pv 0) (pa_cons pe_int pa_nil))))
    (pss_cons (ps_if (PW.pt (pw_or (pt_cmpR op_eq (pv 1) pe_int (nomark _)) (pw_or1 (pt_cmpR op_lt (pv 2) pe_int (nomark _)))))
      (pss_cons (ps_if (pt_cmpR op_eq (C8.pe_c c_law_next hr (by omega) rfl (pa_cons (pv 0) (pa_cons pe_int pa_nil))) pe_int (nomark _))
      (pss_one (ps_ret (pe_tup (pa_cons pe_str (pa_cons (pe_ix ix_list (pe_lst (pa_strs (zs := ["a", "b", "c1", "z", "s.3"]) rfl)) (C8.pe_c c_law_next hr (by omega) rfl (pa_cons (pv 0) (pa_cons pe_int pa_nil))) (fun _ _ => rfl)) pa_nil)))))
      pss_nil)
    (pss_one (ps_ret (pe_tup (pa_cons pe_str (pa_cons (C8.pe_c c_law_next hr (by omega) rfl (pa_cons (pv 0) (pa_cons pe_int pa_nil))) pa_nil))))))
      pss_nil)
    (pss_cons (ps_if (pt_cmpR op_lt (pv 2) pe_int (nomark _))
      (pss_one (ps_ret (pe_tup (pa_cons pe_str (pa_cons (C8.pe_c c_law_kind hr (by omega) rfl (pa_cons (pv 0) (pa_cons (pe_op op_sub (pv 1) pe_int) pa_nil))) (pa_cons (C8.pe_c c_law_kind hr (by omega) rfl (pa_cons (pv 0) (pa_cons (pe_op op_sub (pv 1) pe_int) pa_nil))) pa_nil))))))
      pss_nil)
    (pss_one (ps_ret (pe_tup (pa_cons pe_str (pa_cons (pe_ix ix_list (pe_lst (pa_strs (zs := ["Int", "List", "Pair", "T"]) rfl)) (C8.pe_c c_law_next hr (by omega) rfl (pa_cons (pv 0) (pa_cons pe_int pa_nil))) (fun _ _ => rfl)) (pa_cons (pe_callTy call_tuple_of rfl T.ztuple boot_tuple (pa_cons (pe_lc (own := [("k", 3)]) (g := gName 3) (tt := tYes) rfl scKind.nd (pi_range1 rfl T.zrange (pa_cons (C8.pe_c c_law_next hr (by omega) rfl (pa_cons (pv 0) (pa_cons pe_int pa_nil))) pa_nil)) (blkOk_by (own := [("k", 3)]) (N := ["draws", "depth", "pick", "k"]) (sc := defScope sKind) (by decide +kernel)) (fun _ _ _ _ _ => (pg_name (i := 3) scKind.nd rfl (Or.inl rfl))) (fun _ _ _ _ _ => pts_nil) (fun _ _ _ _ _ => (C8.pe_c c_law_kind hr (by omega) rfl (pa_cons (pv 0) (pa_cons (pe_op op_sub (pv 1) pe_int) pa_nil))))) pa_nil)) pa_nil))))))))), ?_⟩
    refine ⟨_, rfl, p, r, 8, rfl, by decide, hD, fun pick H1 h0 h9 k1 d1 => ?_⟩
    refine ⟨_, rfl, rfl, _, rfl, ?_⟩
    by_cases hd0 : d = 0
    · have z : decide (V.int (d : Int) = V.int 0) = true := by rw [hd0]; exact decide_eq_true rfl
      show if decide (V.int (d : Int) = V.int 0) = true then _ else _
      rw [z]
      refine iteT (iteT ?_)
      refine ⟨_, rfl, p, r, 2, rfl, by decide, d1, fun n1 H2 n10 n12 k2 d2 => ⟨rfl, _, rfl, ?_⟩⟩
      refine ite2 (fun _ => ?_) (fun _ => ?_)
      · refine ⟨by show 5 ≤ sizeLine; decide, fun lz hlz => ?_⟩
        have s1 := same_new hlz (.lst [.str "a", .str "b", .str "c1", .str "z", .str "s.3"])
        have e1 : upd H2 lz (.lst [.str "a", .str "b", .str "c1", .str "z", .str "s.3"]) lz = some (.lst [.str "a", .str "b", .str "c1", .str "z", .str "s.3"]) := upd_same
        generalize hG : upd H2 lz (.lst [.str "a", .str "b", .str "c1", .str "z", .str "s.3"]) = G1 at s1 e1
        rw [show upd H2 lz (.lst ((["a", "b", "c1", "z", "s.3"] : List Str).map V.str)) = G1 from hG]
        have d3 := d2.same s1
        have nl : lz ≠ p := fun e => by
          obtain ⟨_, _, _, z, _⟩ := d3
          rw [← e, e1] at z
          cases z
        refine ⟨_, rfl, p, r, 5, rfl, by decide, d3, fun m H3 m0 m5 k4 d4 => ?_⟩
        obtain ⟨z, hz, ez⟩ := at_str (zs := ["a", "b", "c1", "z", "s.3"]) m0 m5
        refine ⟨lz, _, m, _, rfl, rfl, SqL.of (k4 _ _ nl e1), ez, ?_⟩
        refine ⟨by show 2 ≤ sizeLine; decide, fun t ht => ?_⟩
        exact q _ (.nm z) _ (k1.trans (k2.trans ((Keep.same s1).trans (k4.trans (Keep.same (same_new ht _)))))) (d4.same (same_new ht _)) ⟨t, rfl, upd_same⟩ (gk_nm (ok_names z hz))
      · refine ⟨_, rfl, p, r, 7, rfl, by decide, d2, fun m H3 m0 m5 k3 d3 => ?_⟩
        refine ⟨by show 2 ≤ sizeLine; decide, fun t ht => ?_⟩
        exact q _ (.mt m) _ (k1.trans (k2.trans (k3.trans (Keep.same (same_new ht _))))) (d3.same (same_new ht _)) ⟨t, rfl, upd_same⟩ (gk_mt)
    have z : decide (V.int (d : Int) = V.int 0) = false := by
      rw [dec_int, beq_eq_false_iff_ne]
      omega
    show if decide (V.int (d : Int) = V.int 0) = true then _ else _
    rw [z]
    refine iteF ?_
    refine ⟨_, rfl, _, _, rfl, rfl, _, rfl, ?_⟩
    refine ite2 (fun _ => ?_) (fun _ => ?_)
    · skip
      refine ⟨_, rfl, p, r, 2, rfl, by decide, d1, fun n1 H2 n10 n12 k2 d2 => ⟨rfl, _, rfl, ?_⟩⟩
      refine ite2 (fun _ => ?_) (fun _ => ?_)
      · refine ⟨by show 5 ≤ sizeLine; decide, fun lz hlz => ?_⟩
        have s1 := same_new hlz (.lst [.str "a", .str "b", .str "c1", .str "z", .str "s.3"])
        have e1 : upd H2 lz (.lst [.str "a", .str "b", .str "c1", .str "z", .str "s.3"]) lz = some (.lst [.str "a", .str "b", .str "c1", .str "z", .str "s.3"]) := upd_same
        generalize hG : upd H2 lz (.lst [.str "a", .str "b", .str "c1", .str "z", .str "s.3"]) = G1 at s1 e1
        rw [show upd H2 lz (.lst ((["a", "b", "c1", "z", "s.3"] : List Str).map V.str)) = G1 from hG]
        have d3 := d2.same s1
        have nl : lz ≠ p := fun e => by
          obtain ⟨_, _, _, z, _⟩ := d3
          rw [← e, e1] at z
          cases z
        refine ⟨_, rfl, p, r, 5, rfl, by decide, d3, fun m H3 m0 m5 k4 d4 => ?_⟩
        obtain ⟨z, hz, ez⟩ := at_str (zs := ["a", "b", "c1", "z", "s.3"]) m0 m5
        refine ⟨lz, _, m, _, rfl, rfl, SqL.of (k4 _ _ nl e1), ez, ?_⟩
        refine ⟨by show 2 ≤ sizeLine; decide, fun t ht => ?_⟩
        exact q _ (.nm z) _ (k1.trans (k2.trans ((Keep.same s1).trans (k4.trans (Keep.same (same_new ht _)))))) (d4.same (same_new ht _)) ⟨t, rfl, upd_same⟩ (gk_nm (ok_names z hz))
      · refine ⟨_, rfl, p, r, 7, rfl, by decide, d2, fun m H3 m0 m5 k3 d3 => ?_⟩
        refine ⟨by show 2 ≤ sizeLine; decide, fun t ht => ?_⟩
        exact q _ (.mt m) _ (k1.trans (k2.trans (k3.trans (Keep.same (same_new ht _))))) (d3.same (same_new ht _)) ⟨t, rfl, upd_same⟩ (gk_mt)
    obtain ⟨e, rfl⟩ : ∃ e, d = e + 1 := ⟨d - 1, by omega⟩
    have ed : ∀ x : V, [x, V.int (((e + 1 : Nat) : Int) - 1)] = [x, V.int (e : Int)] := fun x => by rw [show ((e + 1 : Nat) : Int) - 1 = (e : Int) by omega]
    refine ⟨_, rfl, _, _, rfl, rfl, _, rfl, ?_⟩
    refine ite2 (fun _ => ?_) (fun _ => ?_)
    · refine ⟨_, rfl, _, rfl, _, _, rfl, rfl, p, r, e, ed _, by omega, d1, fun v2 a2 H2 k2 d2 at2 g2 => ?_⟩
      refine ⟨_, rfl, _, rfl, _, _, rfl, rfl, p, r, e, ed _, by omega, d2, fun v3 a3 H3 k3 d3 at3 g3 => ?_⟩
      refine ⟨by show 3 ≤ sizeLine; decide, fun t ht => ?_⟩
      have t3 : TK H2 H3 := tk_keep k3 d2.notup
      have t4 : TK H3 (upd H3 t (.tup [.str "fun", v2, v3])) := tk_new ht
      exact q _ (.fn a2 a3) _ (k1.trans (k2.trans (k3.trans (Keep.same (same_new ht _))))) (d3.same (same_new ht _)) ⟨t, v2, v3, rfl, upd_same, at2.keep (t3.trans t4), at3.keep t4⟩ (gk_fn g2 g3)
    · refine ⟨by show 4 ≤ sizeLine; decide, fun lz hlz => ?_⟩
      have s1 := same_new hlz (.lst [.str "Int", .str "List", .str "Pair", .str "T"])
      have e1 : upd H1 lz (.lst [.str "Int", .str "List", .str "Pair", .str "T"]) lz = some (.lst [.str "Int", .str "List", .str "Pair", .str "T"]) := upd_same
      generalize hG : upd H1 lz (.lst [.str "Int", .str "List", .str "Pair", .str "T"]) = G1 at s1 e1
      rw [show upd H1 lz (.lst ((["Int", "List", "Pair", "T"] : List Str).map V.str)) = G1 from hG]
      have d3 := d1.same s1
      have nl : lz ≠ p := fun e => by
        obtain ⟨_, _, _, z, _⟩ := d3
        rw [← e, e1] at z
        cases z
      refine ⟨_, rfl, p, r, 4, rfl, by decide, d3, fun m H3 m0 m5 k4 d4 => ?_⟩
      obtain ⟨z, hz, ez⟩ := at_str (zs := ["Int", "List", "Pair", "T"]) m0 m5
      refine ⟨lz, _, m, _, rfl, rfl, SqL.of (k4 _ _ nl e1), ez, ?_⟩
      refine ⟨_, rfl, p, r, 4, rfl, by decide, d4, fun cnt H5 c0 c4 k5 d5 => ⟨cnt, rfl, by omega, by omega, fun D hD => ?_⟩⟩
      obtain ⟨ndp, ndr⟩ := d5.fresh hD
      refine lc_range (Pv := fun i G => ∃ (l : List Kd) (xs : List V), G D = some (.lst xs) ∧ Keep p H5 G ∧ DrawsAt G p r ∧ Kd.Ats G l xs ∧ l.length = i ∧ Gks e l) ⟨[], [], upd_same, Keep.same (same_new hD _), d5.same (same_new hD _), rfl, rfl, gks_nil e⟩ ?_ ?_
      · rintro i G hi ⟨l, xs, h1, h2, h3, h4, h5, h6⟩
        refine ⟨rfl, ?_⟩
        refine tYes_if ?_
        refine ⟨_, rfl, _, rfl, _, _, rfl, rfl, p, r, e, ed _, by omega, h3, fun v a G2 kp dG at2 g2 => ?_⟩
        have hxl := h4.len
        have h1' := kp _ _ ndp h1
        refine ⟨xs, h1', szl (by omega), l ++ [a], xs ++ [v], upd_same, keep_upd hD (h2.trans kp) _, dG.beside h1' ndr _, ?_, by rw [List.length_append, h5]; rfl, gks_snoc h6 g2⟩
        have t1 : TK G G2 := tk_keep kp h3.notup
        have t2 : TK G2 (upd G2 D (.lst (xs ++ [v]))) := tk_list h1'
        exact Kd.Ats.app (h4.keep (t1.trans t2)) ⟨v, [], rfl, at2.keep t2, rfl⟩
      · rintro G ⟨l, xs, h1, h2, h3, h4, h5, h6⟩
        refine ⟨D, xs, rfl, .inl ⟨SqL.of h1, fun u hu => ?_⟩⟩
        refine ⟨by show 3 ≤ sizeLine; decide, fun t ht => ?_⟩
        have t3 : TK G (upd G u (.tup xs)) := tk_new hu
        have t4 : TK (upd G u (.tup xs)) (upd (upd G u (.tup xs)) t (.tup [.str "con", .str z, .ref u])) := tk_new ht
        exact q _ (.cn z l) _ (k1.trans ((Keep.same s1).trans (k4.trans (k5.trans (h2.trans ((Keep.same (same_new hu _)).trans (Keep.same (same_new ht _)))))))) ((h3.same (same_new hu _)).same (same_new ht _)) ⟨t, u, xs, rfl, upd_same, t4 _ _ upd_same, h4.keep (t3.trans t4)⟩ (gk_cn (ok_cons z hz) h6 (by omega))
end
theorem lookF_some {σ : Sb} {s : Str} {m : Kd} (h : σ.lookup s = some m) : lookF σ s = m := by unfold lookF; rw [h]; rfl
theorem lookF_none {σ : Sb} {s : Str} (h : σ.lookup s = none) : lookF σ s = .nm s := by unfold lookF; rw [h]; rfl
section
variable {P : Program} {w : World} {K : PySem.W.Frag} {mg : Str → Option Value} {base : Heap}
abbrev sPut : Stmt := topS 21
theorem scPut : FnScope ["kind", "table", "part"] ["kind", "table"] (defScope sPut) := ⟨rfl, rfl, rfl, by decide +kernel, rfl, by decide +kernel, by decide +kernel⟩
def spPut (n : Nat) : Sp := fun vs H Q _ => ∃ (v : V) (tb : Addr) (k : Kd) (kvs : List (Key × V)) (σ : Sb), vs = [v, .ref tb] ∧ k.At H v ∧ k.dep < n ∧ k.size ≤ 50000 ∧ H tb = some (.dK kvs) ∧ FoundAs Sum.inr H kvs σ ∧ ∀ (u : V) (H' : Hp), Same H H' → (k.sub (lookF σ)).At H' u → Q u H'
theorem c_put {f : Addr} {fd : FuncData} (T : TxtT mg) (F : Fun K "_law_put" "_law_put" sPut f fd) (b : Binds K fd ["kind", "table"] []) (hm : mg "_law_put" = some (.ref f)) : ∀ n : Nat, C8.Cal P w K mg base (n + 2) "_law_put" (spPut n) []
  | 0 => cal_none F hm b fun vs H Q E ⟨v, tb, k, kvs, σ, _, _, h, _⟩ => Nat.not_lt_zero _ h
  | n + 1 => by
    have c_law_put := c_put T F b hm n
    refine cal_of F hm b scPut (fun vs H Q E h => ?_) (fun cdv A outer s H vs Q E hr h => ?_)
    · obtain ⟨v, tb, k, kvs, σ, rfl, _⟩ := h
      rfl
    obtain ⟨v, tb, k, kvs, σ, rfl, hk, hdn, hsz, htb, hF, q⟩ := h
    have hu := hu_of hr
    refine ⟨_, (pss_cons (ps_if (pt_cmpR op_eq (pe_ix ix_tup (pv 0) pe_int (fun _ _ => rfl)) pe_str (nomark _))
      (pss_one (ps_ret (pe_tup (pa_cons pe_str (pa_cons (pe_ix ix_tup (pv 0) pe_int (fun _ _ => rfl)) (pa_cons (pe_callTy call_tuple_of rfl T.ztuple boot_tuple (pa_cons (pe_lc (own := [("part", 2)]) (g := gName 2) (tt := tYes) rfl scPut.nd (pi_tup (pe_ix ix_tup (pv 0) pe_int (fun _ _ => rfl))) (blkOk_by (own := [("part", 2)]) (N := ["kind", "table", "part"]) (sc := defScope sPut) (by decide +kernel)) (fun _ _ _ _ _ => (pg_name (i := 2) scPut.nd rfl (Or.inl rfl))) (fun _ _ _ _ _ => pts_nil) (fun _ _ _ _ _ => (C8.pe_c c_law_put hr (by omega) rfl (pa_cons (pv 2) (pa_cons (pv 1) pa_nil))))) pa_nil)) pa_nil))))))
      pss_nil)
    (pss_cons (ps_if (pt_cmpR op_eq (pe_ix ix_tup (pv 0) pe_int (fun _ _ => rfl)) pe_str (nomark _))
      (pss_one (ps_ret (pe_tup (pa_cons pe_str (pa_cons (C8.pe_c c_law_put hr (by omega) rfl (pa_cons (pe_ix ix_tup (pv 0) pe_int (fun _ _ => rfl)) (pa_cons (pv 1) pa_nil))) (pa_cons (C8.pe_c c_law_put hr (by omega) rfl (pa_cons (pe_ix ix_tup (pv 0) pe_int (fun _ _ => rfl)) (pa_cons (pv 1) pa_nil))) pa_nil))))))
      pss_nil)
    (pss_cons (ps_if (PW.pt (pw_and (pt_cmpR op_eq (pe_ix ix_tup (pv 0) pe_int (fun _ _ => rfl)) pe_str (nomark _)) (pw_and1 (pt_cmp (pc_din hu (pe_ix ix_tup (pv 0) pe_int (fun _ _ => rfl)) (pv 1))))))
      (pss_one (ps_ret (pe_dget hu (pv 1) (pe_ix ix_tup (pv 0) pe_int (fun _ _ => rfl)) (fun _ _ => rfl))))
      pss_nil)
    (pss_one (ps_ret (pv 0)))))), ?_⟩
    cases k with
    | mt i =>
      obtain ⟨a, rfl, ha⟩ := hk
      refine ⟨_, rfl, a, _, 0, .str "meta", rfl, rfl, SqT.of ha, at0 _ _, rfl, _, rfl, ?_⟩
      show if decide (V.str "meta" = V.str "con") = true then _ else _
      rw [wz _ _ sne9]
      refine iteF ?_
      refine ⟨_, rfl, a, _, 0, .str "meta", rfl, rfl, SqT.of ha, at0 _ _, rfl, _, rfl, ?_⟩
      show if decide (V.str "meta" = V.str "fun") = true then _ else _
      rw [wz _ _ sne7]
      refine iteF ?_
      refine ⟨_, rfl, a, _, 0, .str "meta", rfl, rfl, SqT.of ha, at0 _ _, rfl, _, rfl, ?_⟩
      show if decide (V.str "meta" = V.str "name") = true then _ else _
      rw [wz _ _ sne2]
      refine iteF (iteF ?_)
      exact ⟨_, rfl, q _ H (fun _ _ e => e) ⟨a, rfl, ha⟩⟩
    | nm s =>
      obtain ⟨a, rfl, ha⟩ := hk
      refine ⟨_, rfl, a, _, 0, .str "name", rfl, rfl, SqT.of ha, at0 _ _, rfl, _, rfl, ?_⟩
      show if decide (V.str "name" = V.str "con") = true then _ else _
      rw [wz _ _ sne5]
      refine iteF ?_
      refine ⟨_, rfl, a, _, 0, .str "name", rfl, rfl, SqT.of ha, at0 _ _, rfl, _, rfl, ?_⟩
      show if decide (V.str "name" = V.str "fun") = true then _ else _
      rw [wz _ _ sne3]
      refine iteF ?_
      refine ⟨_, rfl, a, _, 0, .str "name", rfl, rfl, SqT.of ha, at0 _ _, rfl, _, rfl, ?_⟩
      show if decide (V.str "name" = V.str "name") = true then _ else _
      rw [wtt]
      refine iteT ?_
      refine ⟨_, rfl, a, _, 1, .str s, rfl, rfl, SqT.of ha, at1 _ _ _, _, rfl, tb, _, rfl, DGet.k (k := Sum.inr s) htb, _, rfl, ?_⟩
      rcases hF.look inj_inr s with ⟨l1, l2⟩ | ⟨m, v', l1, l2, hm⟩
      · rw [l2]
        refine iteF ?_
        have es : (Kd.nm s).sub (lookF σ) = .nm s := lookF_none l1
        exact ⟨_, rfl, q _ H (fun _ _ e => e) (by rw [es]; exact ⟨a, rfl, ha⟩)⟩
      · rw [l2]
        refine iteT ?_
        have es : (Kd.nm s).sub (lookF σ) = m := lookF_some l1
        exact ⟨_, rfl, _, rfl, a, _, 1, .str s, rfl, rfl, SqT.of ha, at1 _ _ _, tb, v', rfl, l2 ▸ DGet.k (k := Sum.inr s) htb, q v' H (fun _ _ e => e) (by rw [es]; exact hm)⟩
    | fn k1 k2 =>
      obtain ⟨a, x, y, rfl, ha, hx, hy⟩ := hk
      have ed : (Kd.fn k1 k2).dep = 1 + max k1.dep k2.dep := rfl
      have es : (Kd.fn k1 k2).size = 1 + k1.size + k2.size := rfl
      refine ⟨_, rfl, a, _, 0, .str "fun", rfl, rfl, SqT.of ha, at0 _ _, rfl, _, rfl, ?_⟩
      show if decide (V.str "fun" = V.str "con") = true then _ else _
      rw [wz _ _ sne11]
      refine iteF ?_
      refine ⟨_, rfl, a, _, 0, .str "fun", rfl, rfl, SqT.of ha, at0 _ _, rfl, _, rfl, ?_⟩
      show if decide (V.str "fun" = V.str "fun") = true then _ else _
      rw [wtt]
      refine iteT ?_
      refine ⟨_, rfl, a, _, 1, x, rfl, rfl, SqT.of ha, at1 _ _ _, _, rfl, x, tb, k1, kvs, σ, rfl, hx, by omega, by omega, htb, hF, fun u1 H1 s1 at1' => ?_⟩
      have t1 : TK H H1 := tk_same s1
      refine ⟨_, rfl, a, _, 2, y, rfl, rfl, SqT.of (s1 _ _ ha), at2 _ _ _ _, _, rfl, y, tb, k2, kvs, σ, rfl, hy.keep t1, by omega, by omega, s1 _ _ htb, hF.keep t1, fun u2 H2 s2 at2' => ?_⟩
      have t2 : TK H1 H2 := tk_same s2
      refine ⟨by show 3 ≤ sizeLine; decide, fun t ht => ?_⟩
      have t3 : TK H2 (upd H2 t (.tup [.str "fun", u1, u2])) := tk_new ht
      exact q _ _ (fun b o e => same_new ht _ _ _ (s2 _ _ (s1 _ _ e))) ⟨t, u1, u2, rfl, upd_same, at1'.keep (t2.trans t3), at2'.keep t3⟩
    | cn s l =>
      obtain ⟨a, c, xs, rfl, ha, hc, hats⟩ := hk
      have ed : (Kd.cn s l).dep = 1 + Kd.deps l := rfl
      have es : (Kd.cn s l).size = 1 + Kd.sizes l := rfl
      refine ⟨_, rfl, a, _, 0, .str "con", rfl, rfl, SqT.of ha, at0 _ _, rfl, _, rfl, ?_⟩
      show if decide (V.str "con" = V.str "con") = true then _ else _
      rw [wtt]
      refine iteT ?_
      refine ⟨_, rfl, a, _, 1, .str s, rfl, rfl, SqT.of ha, at1 _ _ _, _, rfl, a, _, 2, .ref c, rfl, rfl, SqT.of ha, at2 _ _ _ _, c, rfl, ⟨_, SqT.of hc⟩, fun D hD => ?_⟩
      refine lc_tup (K := K) (a := c) (xs := xs) (fun i H2 => ∃ ys, H2 D = some (.lst ys) ∧ Same H H2 ∧ Kd.Ats H2 ((l.take i).map (Kd.sub (lookF σ))) ys ∧ ys.length = i) ⟨[], upd_same, same_new hD _, rfl, rfl⟩ (fun i H2 hi ⟨ys, h1, h2, h3, h4⟩ => SqT.of (h2 _ _ hc)) ?_ ?_
      · rintro i x H2 hx ⟨ys, h1, h2, h3, h4⟩
        obtain ⟨ki, hki, hat⟩ := Kd.Ats.get i hats hx
        have kmem : ki ∈ l := List.mem_of_getElem? hki
        have t2 : TK H H2 := tk_same h2
        have z1 := deps_mem kmem
        have z2 := size_mem kmem
        refine ⟨rfl, ?_⟩
        refine tYes_if ?_
        refine ⟨_, rfl, _, rfl, x, tb, ki, kvs, σ, rfl, hat.keep t2, by omega, by omega, h2 _ _ htb, hF.keep t2, fun u H3 s3 at3 => ?_⟩
        have hl1 := hats.len
        have hil : i < l.length := (List.getElem?_eq_some_iff.mp hki).1
        refine ⟨ys, s3 _ _ h1, ?_, ys ++ [u], upd_same, ?_, ?_, ?_⟩
        · have z1 := Kd.sizes_len l
          exact szl (by omega)
        · exact same_upd hD (fun b o e => s3 _ _ (h2 _ _ e)) _
        · have t4 : TK H3 (upd H3 D (.lst (ys ++ [u]))) := tk_list (s3 _ _ h1)
          rw [List.take_add_one, hki, List.map_append]
          exact Kd.Ats.app (h3.keep ((tk_same s3).trans t4)) ⟨u, [], rfl, at3.keep t4, rfl⟩
        · rw [List.length_append, h4]
          rfl
      · rintro H2 ⟨ys, h1, h2, h3, h4⟩
        rw [hats.len, List.take_length] at h3
        refine ⟨D, ys, rfl, .inl ⟨SqL.of h1, fun u hu2 => ?_⟩⟩
        refine ⟨by show 3 ≤ sizeLine; decide, fun t ht => ?_⟩
        have t3 : TK H2 (upd H2 u (.tup ys)) := tk_new hu2
        have t4 : TK (upd H2 u (.tup ys)) (upd (upd H2 u (.tup ys)) t (.tup [.str "con", .str s, .ref u])) := tk_new ht
        refine q _ _ (fun b o e => same_new ht _ _ _ (same_new hu2 _ _ _ (h2 _ _ e))) ?_
        rw [Kd.sub, Kd.subs_map]
        exact ⟨t, u, ys, rfl, upd_same, t4 _ _ upd_same, h3.keep (t3.trans t4)⟩
end
end Toy

set_option Elab.async false
set_option linter.all false
set_option maxRecDepth 100000
set_option maxHeartbeats 4000000
/-! Part G: the law. -/
namespace Toy
open PySem L2
open PyProof.Rows (envOfC)
theorem boot_dict : bootBuiltins "dict" = some (.type "dict") := by decide +kernel
/-- the constants of the program's top -/
structure TxtL (K : PySem.W.Frag) (mg : Str → Option Value) (aI aB : Addr) : Prop where
  zrange : mg "range" = none
  zlen : mg "len" = none
  ztuple : mg "tuple" = none
  zstr : mg "str" = none
  zdict : mg "dict" = none
  gINT : ∃ u, mg "INT" = some u ∧ RelV (.ref aI) u
  gBOOL : ∃ u, mg "BOOL" = some u ∧ RelV (.ref aB) u
  dINT : ∀ H, Dp K H (.ref aI) (Kd.cn "Int" []).D
  dBOOL : ∀ H, Dp K H (.ref aB) (Kd.cn "Bool" []).D
/-- a written constant with no types in it -/
theorem written_con {K : PySem.W.Frag} {a e : Addr} {s : Str} {oc oe : Value} {od of : Option Addr} {its jts : Array Value} {n m : Nat} {sl sm : Array (Option Value)} {t1 t2 : Tok} (l : K.lookup a = some ⟨oc, od, .seq its n, sl⟩) (c : oc = .type "tuple") (v : its.toList = [.str "con" t1, .str s t2, .ref e])
    (le : K.lookup e = some ⟨oe, of, .seq jts m, sm⟩) (ce : oe = .type "tuple") (ve : jts.toList = []) : ∀ H : Hp, Dp K H (.ref a) (Kd.cn s []).D := fun H => by
  subst c
  subst ce
  have h1 : its.size = 3 := by rw [← Array.length_toList, v]; rfl
  have h2 : jts.size = 0 := by rw [← Array.length_toList, ve]; rfl
  have r1 : SqT K H a [.str "con", .str s, .ref e] := .inr ⟨_, its, n, l, rfl, rfl, Nat.le_of_lt (szl (by omega)), by rw [v]; exact .cons ⟨t1, rfl⟩ (.cons ⟨t2, rfl⟩ (.cons rfl .nil))⟩
  have r2 : SqT K H e [] := .inr ⟨_, jts, m, le, rfl, rfl, Nat.le_of_lt (szl (by omega)), by rw [ve]; exact .nil⟩
  exact .tup r1 (.cons (.str _) (.cons (.str _) (.cons (.tup r2 .nil) .nil)))
mutual
theorem sub_dep (f : Str → Kd) (D : Nat) (h : ∀ s, (f s).dep ≤ D) : ∀ k : Kd, (k.sub f).dep ≤ k.dep + D
  | .nm s => by have := h s; show (f s).dep ≤ 0 + D; omega
  | .mt i => Nat.zero_le _
  | .fn a b => by
    have h1 := sub_dep f D h a
    have h2 := sub_dep f D h b
    show 1 + max (a.sub f).dep (b.sub f).dep ≤ 1 + max a.dep b.dep + D
    omega
  | .cn s l => by
    have h1 := subs_dep f D h l
    show 1 + Kd.deps (Kd.subs f l) ≤ 1 + Kd.deps l + D
    omega
theorem subs_dep (f : Str → Kd) (D : Nat) (h : ∀ s, (f s).dep ≤ D) : ∀ l : List Kd, Kd.deps (Kd.subs f l) ≤ Kd.deps l + D
  | [] => Nat.zero_le _
  | k :: l => by
    have h1 := sub_dep f D h k
    have h2 := subs_dep f D h l
    show max (k.sub f).dep (Kd.deps (Kd.subs f l)) ≤ max k.dep (Kd.deps l) + D
    omega
end
mutual
theorem sub_lay (f : Str → Kd) (h : ∀ s, PyData.strOk s = true → (f s).lay = true) : ∀ k : Kd, k.lay = true → (k.sub f).lay = true
  | .nm s, e => h s e
  | .mt i, _ => rfl
  | .fn a b, e => by
    have e : (a.lay && b.lay) = true := e
    rw [Bool.and_eq_true] at e
    show ((a.sub f).lay && (b.sub f).lay) = true
    rw [sub_lay f h a e.1, sub_lay f h b e.2]
    rfl
  | .cn s l, e => by
    have e : (PyData.strOk s && Kd.lays l) = true := e
    rw [Bool.and_eq_true] at e
    show (PyData.strOk s && Kd.lays (Kd.subs f l)) = true
    rw [e.1, subs_lay f h l e.2]
    rfl
theorem subs_lay (f : Str → Kd) (h : ∀ s, PyData.strOk s = true → (f s).lay = true) : ∀ l : List Kd, Kd.lays l = true → Kd.lays (Kd.subs f l) = true
  | [], _ => rfl
  | k :: l, e => by
    have e : (k.lay && Kd.lays l) = true := e
    rw [Bool.and_eq_true] at e
    show ((k.sub f).lay && Kd.lays (Kd.subs f l)) = true
    rw [sub_lay f h k e.1, subs_lay f h l e.2]
    rfl
end
theorem fnAll_lay : ∀ (l : List Kd) (k : Kd), Kd.lays l = true → k.lay = true → (fnAll l k).lay = true
  | [], k, _, h => h
  | a :: l, k, e, h => by
    have e : (a.lay && Kd.lays l) = true := e
    rw [Bool.and_eq_true] at e
    show (a.lay && (fnAll l k).lay) = true
    rw [e.1, fnAll_lay l k e.2 h]
    rfl
theorem fnAll_dep : ∀ (l : List Kd) (k : Kd), (fnAll l k).dep ≤ l.length + max (Kd.deps l) k.dep
  | [], k => by show k.dep ≤ 0 + max 0 k.dep; omega
  | a :: l, k => by
    have := fnAll_dep l k
    show 1 + max a.dep (fnAll l k).dep ≤ (l.length + 1) + max (max a.dep (Kd.deps l)) k.dep
    omega
/-! ### rows of names or of numbers -/
def Key.D : Key → PyData
  | .inl i => .int i
  | .inr s => .str s
def keyOk : Key → Bool
  | .inl _ => true
  | .inr s => PyData.strOk s
theorem keys_dp {K : PySem.W.Frag} {H : Hp} : ∀ ks : List Key, DpAll K H (ks.map kV) (ks.map Key.D)
  | [] => .nil
  | .inl i :: ks => .cons (.int i) (keys_dp ks)
  | .inr s :: ks => .cons (.str s) (keys_dp ks)
theorem keys_lay : ∀ ks : List Key, (∀ k ∈ ks, keyOk k = true) → PyData.canLayAll0 (ks.map Key.D) = true
  | [], _ => by simp [PyData.canLayAll0]
  | .inl i :: ks, h => by
    have z := keys_lay ks fun k hk => h k (List.mem_cons_of_mem _ hk)
    simp [Key.D, PyData.canLayAll0, PyData.canLay0, z]
  | .inr s :: ks, h => by
    have z := keys_lay ks fun k hk => h k (List.mem_cons_of_mem _ hk)
    have z2 : PyData.strOk s = true := h (.inr s) (List.mem_cons_self ..)
    simp [Key.D, PyData.canLayAll0, PyData.canLay0, z, z2]
theorem keys_depth : ∀ ks : List Key, PyData.depthAll (ks.map Key.D) ≤ 1
  | [] => by simp [PyData.depthAll]
  | .inl i :: ks => by
    have z := keys_depth ks
    simp [Key.D, PyData.depthAll, PyData.depth]
    omega
  | .inr s :: ks => by
    have z := keys_depth ks
    simp [Key.D, PyData.depthAll, PyData.depth]
    omega
theorem keys_shaped {ks : List Key} (h : ∀ k ∈ ks, keyOk k = true) : SeqAt.shaped (.tuple (ks.map Key.D)) = true := by
  have z := keys_lay ks h
  have z2 := keys_depth ks
  unfold SeqAt.shaped
  rw [Bool.and_eq_true]
  refine ⟨by simp [PyData.canLay0, z], decide_eq_true ?_⟩
  have z3 : (PyData.tuple (ks.map Key.D)).depth ≤ 1 + PyData.depthAll (ks.map Key.D) := by simp [PyData.depth]; omega
  omega
theorem keys_eq {ks : List Key} (h : ∀ k ∈ ks, keyOk k = true) : PyData.eqv (.tuple (ks.map Key.D)) (.tuple (ks.map Key.D)) = true := by
  have z := keys_lay ks h
  exact SeqAt.eqv_refl _ (by simp [PyData.canLay0, z])
mutual
theorem lv_ok (w : Str) : ∀ k : Kd, k.lay = true → ∀ x ∈ k.lv w, keyOk x = true
  | .nm s, e, x, hx => by
    have hx : x ∈ (if w = "name" then [Sum.inr s] else []) := hx
    split at hx
    · rw [List.mem_singleton.mp hx]; exact e
    · cases hx
  | .mt i, _, x, hx => by
    have hx : x ∈ (if w = "meta" then [Sum.inl i] else []) := hx
    split at hx
    · rw [List.mem_singleton.mp hx]; rfl
    · cases hx
  | .fn a b, e, x, hx => by
    have e : (a.lay && b.lay) = true := e
    rw [Bool.and_eq_true] at e
    have hx : x ∈ a.lv w ++ b.lv w := hx
    exact (List.mem_append.mp hx).elim (lv_ok w a e.1 x) (lv_ok w b e.2 x)
  | .cn s l, e, x, hx => by
    have e : (PyData.strOk s && Kd.lays l) = true := e
    rw [Bool.and_eq_true] at e
    exact lvs_ok w l e.2 x hx
theorem lvs_ok (w : Str) : ∀ l : List Kd, Kd.lays l = true → ∀ x ∈ Kd.lvs w l, keyOk x = true
  | [], _, x, hx => by cases hx
  | k :: l, e, x, hx => by
    have e : (k.lay && Kd.lays l) = true := e
    rw [Bool.and_eq_true] at e
    have hx : x ∈ k.lv w ++ Kd.lvs w l := hx
    exact (List.mem_append.mp hx).elim (lv_ok w k e.1 x) (lvs_ok w l e.2 x)
end
/-! ### the dict of the law -/
theorem look_in : ∀ {σ : Sb} {s : Str} {m : Kd}, σ.lookup s = some m → (s, m) ∈ σ
  | (t, n) :: σ, s, m, h => by
    rw [List.lookup_cons] at h
    by_cases e : s = t
    · subst e
      rw [beq_self_eq_true] at h
      have e2 : n = m := Option.some.inj h
      rw [e2]
      exact List.mem_cons_self ..
    · have ne : (s == t) = false := by rw [beq_eq_false_iff_ne]; exact e
      rw [ne] at h
      exact List.mem_cons_of_mem _ (look_in h)
theorem valV_there {kvs : List (Key × V)} {k : Key} {v : V} {q : Key × V} : valV kvs k = some v → valV (kvs ++ [q]) k = some v := by
  induction kvs with
  | nil => intro h; cases h
  | cons x r ih =>
    intro h
    rw [List.cons_append]
    by_cases e : x.1 = k
    · rw [valV_pos e] at h ⊢
      exact h
    · rw [valV_neg e] at h ⊢
      exact ih h
theorem valV_last {kvs : List (Key × V)} {k : Key} {v : V} : valV kvs k = none → valV (kvs ++ [(k, v)]) k = some v := by
  induction kvs with
  | nil => intro _; exact valV_pos rfl
  | cons x r ih =>
    intro h
    rw [List.cons_append]
    by_cases e : x.1 = k
    · rw [valV_pos e] at h
      cases h
    · rw [valV_neg e] at h ⊢
      exact ih h
abbrev nms : List Str := ["a", "b", "c1", "q"]
theorem nms_new : ∀ (i : Nat) (x : Str), nms[i]? = some x → x ∉ nms.take i := by
  intro i x h
  match i, h with
  | 0, h => cases h; decide +kernel
  | 1, h => cases h; decide +kernel
  | 2, h => cases h; decide +kernel
  | 3, h => cases h; decide +kernel
  | i + 4, h => simp [nms] at h
theorem ok_nms : ∀ z ∈ nms, PyData.strOk z = true := by decide +kernel
/-- the dict as it is built: the names so far, each with a type of depth 2 -/
structure Tab (i : Nat) (H : Hp) (tb : Addr) (kvs : List (Key × V)) (σ : Sb) : Prop where
  at_ : H tb = some (.dK kvs)
  fas : FoundAs Sum.inr H kvs σ
  gk : ∀ q ∈ σ, Gk 2 q.2
  nm : ∀ q ∈ σ, q.1 ∈ nms.take i
  hit : ∀ q ∈ kvs, ∃ c, q.2 = .ref c ∧ valV kvs q.1 = some (.ref c)
  len : kvs.length ≤ i
theorem Tab.next {i : Nat} {H : Hp} {tb : Addr} {kvs : List (Key × V)} {σ : Sb} (t : Tab i H tb kvs σ) : Tab (i + 1) H tb kvs σ :=
  ⟨t.at_, t.fas, t.gk, fun q hq => by rw [List.take_add_one]; exact List.mem_append_left _ (t.nm q hq), t.hit, Nat.le_succ_of_le t.len⟩
theorem Tab.keep {i : Nat} {H H' : Hp} {tb : Addr} {kvs : List (Key × V)} {σ : Sb} (t : Tab i H tb kvs σ) (k : TK H H') (e : H' tb = some (.dK kvs)) : Tab i H' tb kvs σ := ⟨e, t.fas.keep k, t.gk, t.nm, t.hit, t.len⟩
theorem Tab.add {i : Nat} {H : Hp} {tb : Addr} {kvs : List (Key × V)} {σ : Sb} {x : Str} {v : V} {m : Kd} (t : Tab i H tb kvs σ) (hx : nms[i]? = some x) (hm : m.At H v) (g : Gk 2 m) : Tab (i + 1) (upd H tb (.dK (putK kvs (Sum.inr x) v))) tb (kvs ++ [(Sum.inr x, v)]) (σ ++ [(x, m)]) := by
  have tk : TK H (upd H tb (.dK (putK kvs (Sum.inr x) v))) := tk_dict t.at_
  have none : valV kvs (Sum.inr x) = none := by
    rcases t.fas.look inj_inr x with ⟨_, l2⟩ | ⟨n, _, l1, _, _⟩
    · exact l2
    · exact (nms_new i x hx (t.nm _ (look_in l1))).elim
  obtain ⟨c, _, ec, _⟩ := hm.tup
  refine ⟨by rw [upd_same, putK_new _ none], FoundAs.add (hm.keep tk) (t.fas.keep tk), fun q hq => ?_, fun q hq => ?_, fun q hq => ?_, by rw [List.length_append]; have := t.len; show kvs.length + 1 ≤ _; omega⟩
  · rcases List.mem_append.mp hq with h | h
    · exact t.gk q h
    · rw [List.mem_singleton.mp h]; exact g
  · rw [List.take_add_one, hx]
    rcases List.mem_append.mp hq with h | h
    · exact List.mem_append_left _ (t.nm q h)
    · rw [List.mem_singleton.mp h]; exact List.mem_append_right _ (List.mem_singleton.mpr rfl)
  · rcases List.mem_append.mp hq with h | h
    · obtain ⟨c2, e1, e2⟩ := t.hit q h
      exact ⟨c2, e1, valV_there e2⟩
    · rw [List.mem_singleton.mp h]
      exact ⟨c, ec, by rw [← ec]; exact valV_last none⟩
theorem Tab.lay {i : Nat} {H : Hp} {tb : Addr} {kvs : List (Key × V)} {σ : Sb} (t : Tab i H tb kvs σ) : ∀ s, PyData.strOk s = true → (lookF σ s).lay = true := fun s hs => by
  cases h : σ.lookup s with
  | none => rw [lookF_none h]; exact hs
  | some m => rw [lookF_some h]; exact (t.gk _ (look_in h)).lay
theorem Tab.dep {i : Nat} {H : Hp} {tb : Addr} {kvs : List (Key × V)} {σ : Sb} (t : Tab i H tb kvs σ) : ∀ s, (lookF σ s).dep ≤ 2 := fun s => by
  cases h : σ.lookup s with
  | none => rw [lookF_none h]; exact Nat.zero_le _
  | some m => rw [lookF_some h]; exact (t.gk _ (look_in h)).dep
theorem DrawsAt.off {H : Hp} {p r D : Addr} (d : DrawsAt H p r) (np : D ≠ p) (nr : D ≠ r) (o : HO) : DrawsAt (upd H D o) p r := by
  obtain ⟨row, i, z, g1, g2⟩ := d
  exact ⟨row, i, z, by rw [upd_ne np.symm]; exact g1, by rw [upd_ne nr.symm]; exact g2⟩
section
variable {P : Program} {w : World} {K : PySem.W.Frag} {mg : Str → Option Value} {base : Heap} {aI aB : Addr}
abbrev sLaw : Stmt := topS 22
theorem scLaw : FnScope ["script", "draws", "kind", "table", "name", "passed", "k", "kinds", "due", "letters", "index"] ["script"] (defScope sLaw) := ⟨rfl, rfl, rfl, by decide +kernel, rfl, by decide +kernel, by decide +kernel⟩
def spLaw (K : PySem.W.Frag) : Sp := fun vs H Q _ => ∃ (a : Addr) (ns : List Int), vs = [.ref a] ∧ SqL K H a (ns.map V.int) ∧ ns.length ≤ 63 ∧ ∀ H', Q (.bl true) H'
theorem c_law {f : Addr} {fd : FuncData} (T : TxtL K mg aI aB) (c_law_reader : C8.Cal P w K mg base 2 "_law_reader" (spReader K) []) (c_law_next : C8.Cal P w K mg base 2 "_law_next" spNext []) (c_law_kind : C8.Cal P w K mg base 8 "_law_kind" (spKind 6) [])
    (cvariables_of : C8.Cal P w K mg base 3 "variables_of" (spLv K "name") []) (cmetas_of : C8.Cal P w K mg base 3 "metas_of" (spLv K "meta") []) (c_law_first : C8.Cal P w K mg base 8 "_law_first" (spLFirst 6) []) (creplace_names : C8.Cal P w K mg base 3 "replace_names" spNames [])
    (c_law_put : C8.Cal P w K mg base 8 "_law_put" (spPut 6) []) (cfunction : C8.Cal P w K mg base 1 "function" (spFunc K) []) (clist_of : C8.Cal P w K mg base 1 "list_of" spListOf []) (cvariable_name : C8.Cal P w K mg base 1 "variable_name" spVName []) (F : Fun K "law" "law" sLaw f fd) : FnOk P w K mg base CX0 9 f fd ["script"] (spLaw K) := by
  refine F.ok scLaw (fun vs H Q E h => ?_) (fun cdv A outer s H vs Q E hr h => ?_)
  · obtain ⟨a, ns, rfl, _⟩ := h
    rfl
  obtain ⟨a, ns, rfl, hS, h63, q⟩ := h
  have hu := hu_of hr
  have hu64 := hr.units
  refine ⟨_, (pss_cons (ps_set (i := 1) scLaw.nd rfl (Or.inr rfl) (C8.pe_c c_law_reader hr (by decide) rfl (pa_cons (pv 0) pa_nil)))
    (pss_cons (ps_set (i := 2) scLaw.nd rfl (Or.inl rfl) (C8.pe_c c_law_kind hr (by decide) rfl (pa_cons (pv 1) (pa_cons (C8.pe_c c_law_next hr (by decide) rfl (pa_cons (pv 1) (pa_cons pe_int pa_nil))) pa_nil))))
    (pss_cons (ps_if (PW.pt (pw_or (pt_cmpR (op_neD hu64) (C8.pe_c cvariables_of hr (by decide) rfl (pa_cons (pv 2) pa_nil)) (C8.pe_c c_law_first hr (by decide) rfl (pa_cons (pv 2) (pa_cons pe_str pa_nil))) (nomark _)) (pw_or1 (pt_cmpR (op_neD hu64) (C8.pe_c cmetas_of hr (by decide) rfl (pa_cons (pv 2) pa_nil)) (C8.pe_c c_law_first hr (by decide) rfl (pa_cons (pv 2) (pa_cons pe_str pa_nil))) (nomark _)))))
      (pss_one (ps_ret pe_bl))
      pss_nil)
    (pss_cons (ps_set (i := 3) scLaw.nd rfl (Or.inl rfl) pe_dnewK)
    (pss_cons (ps_for PassesOwn.never rfl (pi_list (pe_lst (pa_strs (zs := ["a", "b", "c1", "q"]) rfl))) (pg_name (i := 4) scLaw.nd rfl (Or.inl rfl))
      (pss_one (ps_if (pt_cmpR op_gt (C8.pe_c c_law_next hr (by decide) rfl (pa_cons (pv 1) (pa_cons pe_int pa_nil))) pe_int (nomark _))
      (pss_one (ps_dput hu (pv 3) (pv 4) (C8.pe_c c_law_kind hr (by decide) rfl (pa_cons (pv 1) (pa_cons pe_int pa_nil))) rfl))
      pss_nil)))
    (pss_cons (ps_set (i := 5) scLaw.nd rfl (Or.inl rfl) (pe_callTy call_dictD rfl T.zdict boot_dict (pa_cons (pv 3) pa_nil)))
    (pss_cons (ps_if (PW.pt (pw_or (pt_cmpR (op_neD hu64) (C8.pe_c creplace_names hr (by decide) rfl (pa_cons (pv 2) (pa_cons (pv 5) pa_nil))) (C8.pe_c c_law_put hr (by decide) rfl (pa_cons (pv 2) (pa_cons (pv 3) pa_nil))) (nomark _)) (pw_or1 (pt_cmpR (op_ne_dictR (Nat.lt_of_succ_lt hu)) (pv 5) (pv 3) (nomark _)))))
      (pss_one (ps_ret pe_bl))
      pss_nil)
    (pss_cons (ps_setLc (i := 7) (own := [("k", 6)]) (g := gName 6) (tt := tYes) rfl scLaw.nd rfl rfl (sw_true rfl rfl rfl (by decide +kernel)) (pi_range1 rfl T.zrange (pa_cons (C8.pe_c c_law_next hr (by decide) rfl (pa_cons (pv 1) (pa_cons pe_int pa_nil))) pa_nil)) (blkOk_by (own := [("k", 6)]) (N := ["script", "draws", "kind", "table", "name", "passed", "k", "kinds", "due", "letters", "index"]) (sc := defScope sLaw) (by decide +kernel)) (fun _ _ _ _ _ => (pg_name (i := 6) scLaw.nd rfl (Or.inl rfl))) (fun _ _ _ _ _ => pts_nil) (fun _ _ _ _ _ => (C8.pe_c c_law_kind hr (by decide) rfl (pa_cons (pv 1) (pa_cons pe_int pa_nil)))))
    (pss_cons (ps_set (i := 8) scLaw.nd rfl (Or.inl rfl) (pv 2))
    (pss_cons (ps_for PassesOwn.never rfl (pi_range1 rfl T.zrange (pa_cons (pe_callB call_len_seq rfl T.zlen PySem.boot_len (pa_cons (pv 7) pa_nil)) pa_nil)) (pg_name (i := 6) scLaw.nd rfl (Or.inl rfl))
      (pss_one (ps_set (i := 8) scLaw.nd rfl (Or.inl rfl) (pe_tup (pa_cons pe_str (pa_cons (pe_ix ix_list (pv 7) (pe_op op_sub (pe_op op_sub (pe_callB call_len_seq rfl T.zlen PySem.boot_len (pa_cons (pv 7) pa_nil)) pe_int) (pv 6)) (fun _ _ => rfl)) (pa_cons (pv 8) pa_nil)))))))
    (pss_cons (ps_if (PW.pt (pw_or (pt_cmpR (op_neD hu64) (C8.pe_c cfunction hr (by decide) rfl (pa_cons (pe_callTy call_tuple_of rfl T.ztuple boot_tuple (pa_cons (pv 7) pa_nil)) (pa_cons (pv 2) pa_nil))) (pv 8) (nomark _)) (pw_or1 (pt_cmpR (op_neD hu64) (C8.pe_c clist_of hr (by decide) rfl (pa_cons (pv 2) pa_nil)) (pe_tup (pa_cons pe_str (pa_cons pe_str (pa_cons (pe_tup (pa_cons (pv 2) pa_nil)) pa_nil)))) (nomark _)))))
      (pss_one (ps_ret pe_bl))
      pss_nil)
    (pss_cons (ps_set (i := 9) scLaw.nd rfl (Or.inl rfl) pe_str)
    (pss_cons (ps_set (i := 10) scLaw.nd rfl (Or.inl rfl) (C8.pe_c c_law_next hr (by decide) rfl (pa_cons (pv 1) (pa_cons pe_int pa_nil))))
    (pss_cons (ps_set (i := 4) scLaw.nd rfl (Or.inl rfl) (pe_ix ix_str (pv 9) (pe_op op_mod (pv 10) pe_int) (fun _ _ => rfl)))
    (pss_cons (ps_if (pt_cmpR op_ge (pv 10) pe_int (nomark _))
      (pss_one (ps_set (i := 4) scLaw.nd rfl (Or.inl rfl) (pe_op op_add_str (pv 4) (pe_callTy call_str_int rfl T.zstr boot_str (pa_cons (pe_op op_fdiv (pv 10) pe_int) pa_nil)))))
      pss_nil)
    (pss_one (ps_ret (pe_and (pe_cmpR op_eq (C8.pe_c cvariable_name hr (by decide) rfl (pa_cons (pv 10) pa_nil)) (pv 4) (nomark _)) (pe_and (pe_cmpR (op_eqD hu64) (C8.pe_gc rfl T.gINT) (pe_tup (pa_cons pe_str (pa_cons pe_str (pa_cons (pe_tup pa_nil) pa_nil)))) (nomark _)) (pe_one (pe_cmpR (op_eqD hu64) (C8.pe_gc rfl T.gBOOL) (pe_tup (pa_cons pe_str (pa_cons pe_str (pa_cons (pe_tup pa_nil) pa_nil)))) (nomark _)))))))))))))))))))))), ?_⟩
  refine ⟨_, rfl, a, ns, rfl, hS, h63, fun p r H1 hp s1 d1 => ?_⟩
  refine ⟨_, rfl, _, rfl, p, r, 6, rfl, by decide, d1, fun n1 H2 n10 n16 k2 d2 => ?_⟩
  refine ⟨p, r, n1.toNat, by show [V.ref p, V.int n1] = _; rw [Int.toNat_of_nonneg n10], by omega, d2, fun vk k H3 k3 d3 at3 g3 => ?_⟩
  have hdk : k.dep ≤ 5 := by have := g3.dep; omega
  have hsk : k.size ≤ 364 := by
    have h1 := g3.size
    have h2 := kS_le (show n1.toNat ≤ 5 by omega)
    rw [kS5] at h2
    omega
  have oknm : ∀ x ∈ addAll [] (k.lv "name"), keyOk x = true := fun x hx => lv_ok "name" k g3.lay x ((mem_addAll.mp hx).elim (fun z => absurd z List.not_mem_nil) id)
  have okmt : ∀ x ∈ addAll [] (k.lv "meta"), keyOk x = true := fun x hx => lv_ok "meta" k g3.lay x ((mem_addAll.mp hx).elim (fun z => absurd z List.not_mem_nil) id)
  have sh1 := keys_shaped (ks := addAll [] (k.lv "name")) oknm
  have sh2 := keys_shaped (ks := addAll [] (k.lv "meta")) okmt
  have eq1 := keys_eq (ks := addAll [] (k.lv "name")) oknm
  have eq2 := keys_eq (ks := addAll [] (k.lv "meta")) okmt
  refine ⟨_, rfl, vk, k, rfl, at3, by omega, fun va H4 s4 hva => ?_⟩
  refine ⟨_, rfl, vk, k, "name", rfl, .inl rfl, at3.keep (tk_same s4), by omega, by omega, fun vb H5 s5 hvb => ?_⟩
  refine ⟨_, _, .tup (SqT.of (s5 _ _ hva)) (keys_dp _), .tup (SqT.of hvb) (keys_dp _), sh1, sh1, _, rfl, ?_⟩
  show if (!PyData.eqv _ _) = true then _ else _
  rw [eq1]
  refine iteF ?_
  have t5 : TK H3 H5 := (tk_same s4).trans (tk_same s5)
  refine ⟨_, rfl, vk, k, rfl, at3.keep t5, by omega, fun vc H6 s6 hvc => ?_⟩
  refine ⟨_, rfl, vk, k, "meta", rfl, .inr rfl, (at3.keep t5).keep (tk_same s6), by omega, by omega, fun vd H7 s7 hvd => ?_⟩
  refine ⟨_, _, .tup (SqT.of (s7 _ _ hvc)) (keys_dp _), .tup (SqT.of hvd) (keys_dp _), sh2, sh2, _, rfl, ?_⟩
  show if (!PyData.eqv _ _) = true then _ else _
  rw [eq2]
  refine iteF ?_
  have s37 : Same H3 H7 := fun b o e => s7 _ _ (s6 _ _ (s5 _ _ (s4 _ _ e)))
  have at7 := at3.keep (tk_same s37)
  have d7 := d3.same s37
  clear s4 s5 s6 s7 hva hvb hvc hvd t5
  intro tb htb
  obtain ⟨ntp, ntr⟩ := d7.fresh htb
  have d8 := d7.same (same_new htb (.dK []))
  have at8 := at7.keep (tk_new (o := .dK []) htb)
  have htb8 : upd H7 tb (.dK []) tb = some (.dK []) := upd_same
  generalize upd H7 tb (.dK []) = H8 at d8 at8 htb8 ⊢
  refine ⟨by show 4 ≤ sizeLine; decide, fun ll hll => ?_⟩
  have ntl : ll ≠ tb := fun e => by rw [e, htb8] at hll; cases hll
  obtain ⟨nlp, nlr⟩ := d8.fresh hll
  have t9 : TK H8 (upd H8 ll (.lst (nms.map V.str))) := tk_new hll
  have d9 := d8.same (same_new hll (.lst (nms.map V.str)))
  have at9 := at8.keep t9
  have hll9 : upd H8 ll (.lst (nms.map V.str)) ll = some (.lst (nms.map V.str)) := upd_same
  have htb9 : upd H8 ll (.lst (nms.map V.str)) tb = some (.dK []) := same_new hll _ _ _ htb8
  refine ⟨ll, rfl, ⟨_, SqL.of hll9⟩, for_list (K := K) (a := ll) (xs := nms.map V.str)
    (fun (i : Nat) σ G => ∃ (v4 : Option V) (kvs : List (Key × V)) (τ : Sb), σ = [some (.ref a), some (.ref p), some vk, some (.ref tb), v4, none, none, none, none, none, none] ∧ G ll = some (.lst (nms.map V.str)) ∧ DrawsAt G p r ∧ k.At G vk ∧ Tab i G tb kvs τ)
    ⟨none, [], [], rfl, hll9, d9, at9, htb9, rfl, (fun q hq => by cases hq), (fun q hq => by cases hq), (fun q hq => by cases hq), Nat.le_refl _⟩ ?_ ?_ ?_⟩
  · rintro i σ G _ ⟨v4, kvs, τ, _, h1, _⟩
    exact SqL.of h1
  · rintro i x σ G hx ⟨v4, kvs, τ, rfl, h1, h2, h3, h4⟩
    obtain ⟨y, hy, ey⟩ : ∃ y, nms[i]? = some y ∧ x = .str y := by
      rw [List.getElem?_map] at hx
      cases e : nms[i]? with
      | none => rw [e] at hx; cases hx
      | some y => rw [e] at hx; exact ⟨y, rfl, (Option.some.inj hx).symm⟩
    subst ey
    have hi : i < 4 := (List.getElem?_eq_some_iff.mp hy).1
    refine ⟨_, rfl, p, r, 3, rfl, by decide, h2, fun n2 G2 _ _ kp2 d2' => ⟨_, _, rfl, rfl, _, rfl, ?_⟩⟩
    have t2 : TK G G2 := tk_keep kp2 h2.notup
    refine ite2 (fun _ => ?_) (fun _ => ?_)
    · refine ⟨_, rfl, p, r, 2, rfl, by decide, d2', fun v m G3 kp3 d3' atv gv => ?_⟩
      have t3 : TK G2 G3 := tk_keep kp3 d2'.notup
      have htb3 := kp3 _ _ ntp (kp2 _ _ ntp h4.at_)
      have tab3 := h4.keep (t2.trans t3) htb3
      refine ⟨_, rfl, _, rfl, tb, _, rfl, DPut.k (k := Sum.inr y) htb3 (szl (by have := h4.len; omega)), ?_⟩
      refine ⟨_, _, _, rfl, (by rw [upd_ne ntl]; exact kp3 _ _ nlp (kp2 _ _ nlp h1)), d3'.off ntp ntr _, (h3.keep (t2.trans t3)).keep (tk_dict htb3), tab3.add hy atv gv⟩
    · exact ⟨_, kvs, τ, rfl, kp2 _ _ nlp h1, d2', h3.keep t2, (h4.keep t2 (kp2 _ _ ntp h4.at_)).next⟩
  rintro σ G ⟨v4, kvs, τ, rfl, h1, dG, atG, tab⟩
  clear d1 d2 d3 d7 d8 d9 at3 at7 at8 at9 t9 hll9 htb9 htb8 hll htb h1
  have f1 := sub_dep (lookF τ) 2 tab.dep k
  have f2 := sub_lay (lookF τ) tab.lay k g3.lay
  have f3 : SeqAt.shaped (k.sub (lookF τ)).D = true := Kd.shaped f2 (by omega)
  have f4 : (!PyData.eqv (k.sub (lookF τ)).D (k.sub (lookF τ)).D) = false := by rw [(Kd.eqv_iff _ _).mpr rfl]; rfl
  refine ⟨_, rfl, tb, kvs, rfl, .inl tab.at_, fun pd hpd => ?_⟩
  have s10 := same_new hpd (.dK kvs)
  have e10 : upd G pd (.dK kvs) pd = some (.dK kvs) := upd_same
  generalize upd G pd (.dK kvs) = H10 at s10 e10 ⊢
  have t10 := tk_same s10
  refine ⟨_, rfl, _, rfl, vk, pd, k, kvs, τ, rfl, atG.keep t10, by omega, e10, tab.fas.keep t10, fun u1 H11 s11 at11 => ?_⟩
  have t11 := tk_same s11
  refine ⟨_, rfl, _, rfl, vk, tb, k, kvs, τ, rfl, (atG.keep t10).keep t11, by omega, by omega, s11 _ _ (s10 _ _ tab.at_), (tab.fas.keep t10).keep t11, fun u2 H12 s12 at12 => ?_⟩
  refine ⟨_, _, (at11.keep (tk_same s12)).dp, at12.dp, f3, f3, _, rfl, ?_⟩
  show if (!PyData.eqv _ _) = true then _ else _
  rw [f4]
  refine iteF ?_
  have sG2 : Same G H12 := fun b o e => s12 _ _ (s11 _ _ (s10 _ _ e))
  refine ⟨_, rfl, _, rfl, pd, tb, kvs, kvs, rfl, rfl, s12 _ _ (s11 _ _ e10), sG2 _ _ tab.at_, rfl, tab.hit, _, rfl, ?_⟩
  refine iteF ?_
  have d12 := dG.same sG2
  have at12' := atG.keep (tk_same sG2)
  clear s10 e10 t10 s11 at11 t11 s12 at12 f1 f2 f3 f4 sG2 dG atG tab hpd
  refine ⟨_, rfl, p, r, 6, rfl, by decide, d12, fun cnt H13 c0 c6 k13 d13 => ⟨cnt, rfl, by omega, by omega, fun D hD => ?_⟩⟩
  have at13 := at12'.keep (tk_keep k13 d12.notup)
  obtain ⟨ndp, ndr⟩ := d13.fresh hD
  refine lc_range (Pv := fun i G => ∃ (l : List Kd) (xs : List V), G D = some (.lst xs) ∧ TK H13 G ∧ DrawsAt G p r ∧ Kd.Ats G l xs ∧ l.length = i ∧ Gks 2 l) ⟨[], [], upd_same, tk_new hD, d13.same (same_new hD _), rfl, rfl, gks_nil 2⟩ ?_ ?_
  · rintro i G hi ⟨l, xs, h1, h2, h3, h4, h5, h6⟩
    refine ⟨rfl, ?_⟩
    refine tYes_if ?_
    refine ⟨_, rfl, p, r, 2, rfl, by decide, h3, fun v m G2 kp dG at2' g2 => ?_⟩
    have hxl := h4.len
    have h1' := kp _ _ ndp h1
    have t1 : TK G G2 := tk_keep kp h3.notup
    have t2 : TK G2 (upd G2 D (.lst (xs ++ [v]))) := tk_list h1'
    refine ⟨xs, h1', szl (by omega), l ++ [m], xs ++ [v], upd_same, h2.trans (t1.trans t2), dG.off ndp ndr _, ?_, by rw [List.length_append, h5]; rfl, gks_snoc h6 g2⟩
    exact Kd.Ats.app (h4.keep (t1.trans t2)) ⟨v, [], rfl, at2'.keep t2, rfl⟩
  rintro G ⟨l, xs, hD14, t14, d14, ats14, hl14, g14⟩
  have at14 := at13.keep t14
  have hxl := ats14.len
  clear at13 at12' d12 d13 hD
  refine ⟨_, rfl, ?_⟩
  refine ⟨_, rfl, D, xs, rfl, .inl (SqL.of hD14), (xs.length : Int), rfl, by omega, by omega, for_range
    (fun (i : Nat) σ H2 => ∃ (v6 : Option V) (u : V), σ = [some (.ref a), some (.ref p), some vk, some (.ref tb), v4, some (.ref pd), v6, some (.ref D), some u, none, none] ∧ H2 D = some (.lst xs) ∧ TK G H2 ∧ DrawsAt H2 p r ∧ (fnAll (l.drop (l.length - i)) k).At H2 u)
    ⟨none, vk, rfl, hD14, TK.refl _, d14, by rw [Nat.sub_zero, List.drop_length]; exact at14⟩ ?_ ?_⟩
  · rintro i σ H2 hi ⟨v6, u, rfl, h1, h2, h3, h4⟩
    have hi' : i < l.length := by omega
    have hj : xs.length - 1 - i < xs.length := by omega
    obtain ⟨m, hm1, hm2⟩ := Kd.Ats.get (xs.length - 1 - i) ats14 (List.getElem?_eq_getElem hj)
    have ex : atI xs ((xs.length : Int) - 1 - (0 + (i : Int))) = some xs[xs.length - 1 - i] := by
      rw [show (xs.length : Int) - 1 - (0 + (i : Int)) = ((xs.length - 1 - i : Nat) : Int) by omega]
      exact atI_nat (List.getElem?_eq_getElem hj)
    refine ⟨_, rfl, _, rfl, D, xs, rfl, .inl (SqL.of h1), _, _, rfl, rfl, _, rfl, _, _, rfl, rfl, D, xs, _, _, rfl, rfl, SqL.of h1, ex, _, rfl, by show 3 ≤ sizeLine; decide, fun t ht => ?_⟩
    have s1 := same_new ht (.tup [.str "fun", xs[xs.length - 1 - i], u])
    have t1 := tk_same s1
    refine ⟨_, _, rfl, s1 _ _ h1, h2.trans t1, h3.same s1, ?_⟩
    rw [hxl] at hm1
    rw [← fnAll_step hi' hm1]
    exact ⟨t, _, _, rfl, upd_same, hm2.keep (h2.trans t1), h4.keep t1⟩
  rintro σ H15 ⟨v6, u, rfl, h1, h2, h3, h4⟩
  rw [show l.length - ((xs.length : Int)).toNat = 0 by omega, List.drop_zero] at h4
  have at15 := at14.keep h2
  have ats15 := ats14.keep h2
  clear at14 hD14 d14
  refine ⟨_, rfl, D, xs, rfl, .inl ⟨SqL.of h1, fun tq htq => ?_⟩⟩
  have s16 := same_new htq (.tup xs)
  have e16 : upd H15 tq (.tup xs) tq = some (.tup xs) := upd_same
  generalize upd H15 tq (.tup xs) = H16 at s16 e16 ⊢
  have t16 := tk_same s16
  refine ⟨_, rfl, tq, vk, l, k, xs, rfl, e16, ats15.keep t16, at15.keep t16, fun u2 H17 s17 at17 => ?_⟩
  have t17 := tk_same s17
  have f1 := fnAll_lay l k g14.lay g3.lay
  have f2 := fnAll_dep l k
  have f3 := g14.dep
  have f4 : SeqAt.shaped (fnAll l k).D = true := Kd.shaped f1 (by omega)
  have f5 : (!PyData.eqv (fnAll l k).D (fnAll l k).D) = false := by rw [(Kd.eqv_iff _ _).mpr rfl]; rfl
  refine ⟨_, rfl, _, _, at17.dp, ((h4.keep t16).keep t17).dp, f4, f4, _, rfl, ?_⟩
  show if (!PyData.eqv _ _) = true then _ else _
  rw [f5]
  refine iteF ?_
  have at17' := (at15.keep t16).keep t17
  refine ⟨_, rfl, vk, k, rfl, at17', fun u3 H18 s18 at18 => ?_⟩
  refine ⟨_, rfl, by show 1 ≤ sizeLine; decide, fun t1 ht1 => ?_⟩
  have s19 := same_new ht1 (.tup [vk])
  have e19 : upd H18 t1 (.tup [vk]) t1 = some (.tup [vk]) := upd_same
  generalize upd H18 t1 (.tup [vk]) = H19 at s19 e19 ⊢
  refine ⟨by show 3 ≤ sizeLine; decide, fun t2 ht2 => ?_⟩
  have s20 := same_new ht2 (.tup [.str "con", .str "List", .ref t1])
  have e20 : upd H19 t2 (.tup [.str "con", .str "List", .ref t1]) t2 = some (.tup [.str "con", .str "List", .ref t1]) := upd_same
  generalize upd H19 t2 (.tup [.str "con", .str "List", .ref t1]) = H20 at s20 e20 ⊢
  have at20 : (Kd.cn "List" [k]).At H20 (.ref t2) := ⟨t2, t1, [vk], rfl, e20, s20 _ _ e19, vk, [], rfl, ((at17'.keep (tk_same s18)).keep (tk_same s19)).keep (tk_same s20), rfl⟩
  have g1 : (Kd.cn "List" [k]).lay = true := by show (PyData.strOk "List" && (k.lay && true)) = true; rw [ok_list, g3.lay]; rfl
  have g2 : (Kd.cn "List" [k]).dep ≤ 30 := by show 1 + max k.dep 0 ≤ 30; omega
  have g4 : SeqAt.shaped (Kd.cn "List" [k]).D = true := Kd.shaped g1 g2
  have g5 : (!PyData.eqv (Kd.cn "List" [k]).D (Kd.cn "List" [k]).D) = false := by rw [(Kd.eqv_iff _ _).mpr rfl]; rfl
  refine ⟨_, _, ((at18.keep (tk_same s19)).keep (tk_same s20)).dp, at20.dp, g4, g4, _, rfl, ?_⟩
  show if (!PyData.eqv _ _) = true then _ else _
  rw [g5]
  refine iteF ?_
  have d20 := ((((h3.same s16).same s17).same s18).same s19).same s20
  refine ⟨_, rfl, p, r, 300, rfl, by decide, d20, fun ix H21 i0 i300 k21 d21 => ?_⟩
  have hl : LET.length ≤ sizeLine := by rw [let26]; decide
  have e26 : ((LET.length : Nat) : Int) = 26 := by rw [let26]; rfl
  obtain ⟨c, hc⟩ := letAt (j := ix % 26) (Int.emod_nonneg _ (by decide)) (Int.emod_lt_of_pos _ (by decide))
  refine ⟨_, rfl, _, rfl, _, _, rfl, rfl, (show (0 : Int) < 26 by decide), LET, _, c, rfl, rfl, hl, hc, ?_⟩
  have shI : SeqAt.shaped (Kd.cn "Int" []).D = true := Kd.shaped (by decide +kernel) (by decide)
  have shB : SeqAt.shaped (Kd.cn "Bool" []).D = true := Kd.shaped (by decide +kernel) (by decide)
  have h12 : 0 ≤ ix / 26 ∧ ix / 26 < 12 := by omega
  refine ⟨_, rfl, _, _, rfl, rfl, _, rfl, ?_⟩
  refine ite2 (fun h26 => ?_) (fun h26 => ?_)
  · have h26' : 26 ≤ ix := of_decide_eq_true h26
    have nm1 : vnm c (ix / 26) = ⟨#[c]⟩ ++ toString (ix / 26) := if_neg (by omega)
    refine ⟨_, rfl, _, rfl, _, _, rfl, rfl, ⟨by decide, by decide⟩, _, rfl, ?_, _, _, rfl, rfl, ?_, ?_⟩
    · have z := Nat.log2_le_self (ix / 26).natAbs
      omega
    · have z := turn_len (j := ix / 26) h12.1 h12.2
      exact Nat.le_of_lt (szl (by show 1 + _ ≤ _; omega))
    have SAME : decide (V.str (vnm c (ix / 26)) = V.str (⟨#[c]⟩ ++ toString (ix / 26))) = true := decide_eq_true (by rw [nm1])
    refine ⟨_, rfl, ix, c, rfl, i0, i300, hc, _, rfl, rfl, _, rfl, ?_⟩
    rw [SAME]
    refine iteT ?_
    refine ⟨by show 0 ≤ sizeLine; decide, fun e1 he1 => ?_⟩
    have s22 := same_new he1 (.tup [])
    have h22 : upd H21 e1 (.tup []) e1 = some (.tup []) := upd_same
    generalize upd H21 e1 (.tup []) = H22 at s22 h22 ⊢
    refine ⟨by show 3 ≤ sizeLine; decide, fun e2 he2 => ?_⟩
    have s23 := same_new he2 (.tup [.str "con", .str "Int", .ref e1])
    have h23 : upd H22 e2 (.tup [.str "con", .str "Int", .ref e1]) e2 = some (.tup [.str "con", .str "Int", .ref e1]) := upd_same
    generalize upd H22 e2 (.tup [.str "con", .str "Int", .ref e1]) = H23 at s23 h23 ⊢
    have atI' : (Kd.cn "Int" []).At H23 (.ref e2) := ⟨e2, e1, [], rfl, h23, s23 _ _ h22, rfl⟩
    refine ⟨_, _, T.dINT _, atI'.dp, shI, shI, _, rfl, ?_⟩
    rw [(Kd.eqv_iff _ _).mpr rfl]
    refine iteT ?_
    refine ⟨by show 0 ≤ sizeLine; decide, fun e3 he3 => ?_⟩
    have s24 := same_new he3 (.tup [])
    have h24 : upd H23 e3 (.tup []) e3 = some (.tup []) := upd_same
    generalize upd H23 e3 (.tup []) = H24 at s24 h24 ⊢
    refine ⟨by show 3 ≤ sizeLine; decide, fun e4 he4 => ?_⟩
    have s25 := same_new he4 (.tup [.str "con", .str "Bool", .ref e3])
    have h25 : upd H24 e4 (.tup [.str "con", .str "Bool", .ref e3]) e4 = some (.tup [.str "con", .str "Bool", .ref e3]) := upd_same
    generalize upd H24 e4 (.tup [.str "con", .str "Bool", .ref e3]) = H25 at s25 h25 ⊢
    have atB' : (Kd.cn "Bool" []).At H25 (.ref e4) := ⟨e4, e3, [], rfl, h25, s25 _ _ h24, rfl⟩
    refine ⟨_, _, T.dBOOL _, atB'.dp, shB, shB, ?_⟩
    rw [(Kd.eqv_iff _ _).mpr rfl]
    exact q _
  · have h26' : ¬ 26 ≤ ix := fun z => h26 (decide_eq_true z)
    have nm1 : vnm c (ix / 26) = ⟨#[c]⟩ := if_pos (by omega)
    have SAME : decide (V.str (vnm c (ix / 26)) = V.str ⟨#[c]⟩) = true := decide_eq_true (by rw [nm1])
    refine ⟨_, rfl, ix, c, rfl, i0, i300, hc, _, rfl, rfl, _, rfl, ?_⟩
    rw [SAME]
    refine iteT ?_
    refine ⟨by show 0 ≤ sizeLine; decide, fun e1 he1 => ?_⟩
    have s22 := same_new he1 (.tup [])
    have h22 : upd H21 e1 (.tup []) e1 = some (.tup []) := upd_same
    generalize upd H21 e1 (.tup []) = H22 at s22 h22 ⊢
    refine ⟨by show 3 ≤ sizeLine; decide, fun e2 he2 => ?_⟩
    have s23 := same_new he2 (.tup [.str "con", .str "Int", .ref e1])
    have h23 : upd H22 e2 (.tup [.str "con", .str "Int", .ref e1]) e2 = some (.tup [.str "con", .str "Int", .ref e1]) := upd_same
    generalize upd H22 e2 (.tup [.str "con", .str "Int", .ref e1]) = H23 at s23 h23 ⊢
    have atI' : (Kd.cn "Int" []).At H23 (.ref e2) := ⟨e2, e1, [], rfl, h23, s23 _ _ h22, rfl⟩
    refine ⟨_, _, T.dINT _, atI'.dp, shI, shI, _, rfl, ?_⟩
    rw [(Kd.eqv_iff _ _).mpr rfl]
    refine iteT ?_
    refine ⟨by show 0 ≤ sizeLine; decide, fun e3 he3 => ?_⟩
    have s24 := same_new he3 (.tup [])
    have h24 : upd H23 e3 (.tup []) e3 = some (.tup []) := upd_same
    generalize upd H23 e3 (.tup []) = H24 at s24 h24 ⊢
    refine ⟨by show 3 ≤ sizeLine; decide, fun e4 he4 => ?_⟩
    have s25 := same_new he4 (.tup [.str "con", .str "Bool", .ref e3])
    have h25 : upd H24 e4 (.tup [.str "con", .str "Bool", .ref e3]) e4 = some (.tup [.str "con", .str "Bool", .ref e3]) := upd_same
    generalize upd H24 e4 (.tup [.str "con", .str "Bool", .ref e3]) = H25 at s25 h25 ⊢
    have atB' : (Kd.cn "Bool" []).At H25 (.ref e4) := ⟨e4, e3, [], rfl, h25, s25 _ _ h24, rfl⟩
    refine ⟨_, _, T.dBOOL _, atB'.dp, shB, shB, ?_⟩
    rw [(Kd.eqv_iff _ _).mpr rfl]
    exact q _
end
end Toy

set_option Elab.async false
set_option linter.all false
set_option maxRecDepth 100000
set_option maxHeartbeats 4000000
/-! The last part: what the program's top has left, and the end. -/
namespace Toy
open PySem L2
open PyProof.Rows (envOfC)
theorem all_mk {l : PySem.W.OpenLaw} {w : World} {K : PySem.W.Frag} {h : Heap} {mg : Str → Option Value} {fa : Addr} {f0 f1 f2 f3 f4 f5 f6 f7 f8 f9 f10 f11 f12 f13 f14 f15 f16 f17 : Addr} (X : K.In h) (G : h.Ns mainGlobals mg) (hfa : mg "law" = some (.ref fa))
    {od0 an0 od1 an1 od2 an2 od3 an3 od4 an4 od5 an5 od6 an6 od7 an7 od8 an8 od9 an9 od10 an10 od11 an11 od12 an12 od13 an13 od14 an14 od15 an15 od16 an16 od17 an17 : Option Addr} {sl0 sl1 sl2 sl3 sl4 sl5 sl6 sl7 sl8 sl9 sl10 sl11 sl12 sl13 sl14 sl15 sl16 sl17 : Array (Option Value)} {oc0 kV0 dc0 pm0 cd0 ct0 oc1 kV1 dc1 pm1 cd1 ct1 oc2 kV2 dc2 pm2 cd2 ct2 oc3 kV3 dc3 pm3 cd3 ct3 oc4 kV4 dc4 pm4 cd4 ct4 oc5 kV5 dc5 pm5 cd5 ct5 oc6 kV6 dc6 pm6 cd6 ct6 oc7 kV7 dc7 pm7 cd7 ct7 oc8 kV8 dc8 pm8 cd8 ct8 oc9 kV9 dc9 pm9 cd9 ct9 oc10 kV10 dc10 pm10 cd10 ct10 oc11 kV11 dc11 pm11 cd11 ct11 oc12 kV12 dc12 pm12 cd12 ct12 oc13 kV13 dc13 pm13 cd13 ct13 oc14 kV14 dc14 pm14 cd14 ct14 oc15 kV15 dc15 pm15 cd15 ct15 oc16 kV16 dc16 pm16 cd16 ct16 oc17 kV17 dc17 pm17 cd17 ct17 : Value}
    {aI aB eI eB : Addr} {ocI ocB odE ocE : Value} {ofI ofB ofE ofD : Option Addr} {itI itB itE itD : Array Value} {nI nB nE nD : Nat} {slI slB slE slD : Array (Option Value)} {tkL tI1 tI2 tB1 tB2 : Tok}
    (a0 : PySem.W.nsIn K mainGlobals "list_of" = some (some (.ref f0)))
    (l0 : K.lookup f0 = some ⟨oc0, od0, .func (PySem.W.fnOf "list_of" "list_of" (defArgs sListOf) (defBody sListOf) (defScope sListOf) .none kV0 dc0 pm0 an0 cd0 ct0), sl0⟩)
    (c0 : PySem.W.codeIn K cd0 "list_of" = true)
    (k0 : PySem.W.keepIn K (.ref f0) = true)
    (a1 : PySem.W.nsIn K mainGlobals "function" = some (some (.ref f1)))
    (l1 : K.lookup f1 = some ⟨oc1, od1, .func (PySem.W.fnOf "function" "function" (defArgs sFunc) (defBody sFunc) (defScope sFunc) .none kV1 dc1 pm1 an1 cd1 ct1), sl1⟩)
    (c1 : PySem.W.codeIn K cd1 "function" = true)
    (k1 : PySem.W.keepIn K (.ref f1) = true)
    (a2 : PySem.W.nsIn K mainGlobals "variables_of" = some (some (.ref f2)))
    (l2 : K.lookup f2 = some ⟨oc2, od2, .func (PySem.W.fnOf "variables_of" "variables_of" (defArgs sVars) (defBody sVars) (defScope sVars) .none kV2 dc2 pm2 an2 cd2 ct2), sl2⟩)
    (c2 : PySem.W.codeIn K cd2 "variables_of" = true)
    (k2 : PySem.W.keepIn K (.ref f2) = true)
    (a3 : PySem.W.nsIn K mainGlobals "metas_of" = some (some (.ref f3)))
    (l3 : K.lookup f3 = some ⟨oc3, od3, .func (PySem.W.fnOf "metas_of" "metas_of" (defArgs sMetas) (defBody sMetas) (defScope sMetas) .none kV3 dc3 pm3 an3 cd3 ct3), sl3⟩)
    (c3 : PySem.W.codeIn K cd3 "metas_of" = true)
    (k3 : PySem.W.keepIn K (.ref f3) = true)
    (a4 : PySem.W.nsIn K mainGlobals "_leaves" = some (some (.ref f4)))
    (l4 : K.lookup f4 = some ⟨oc4, od4, .func (PySem.W.fnOf "_leaves" "_leaves" (defArgs sLeaves) (defBody sLeaves) (defScope sLeaves) .none kV4 dc4 pm4 an4 cd4 ct4), sl4⟩)
    (c4 : PySem.W.codeIn K cd4 "_leaves" = true)
    (k4 : PySem.W.keepIn K (.ref f4) = true)
    (a5 : PySem.W.nsIn K mainGlobals "kind_parts" = some (some (.ref f5)))
    (l5 : K.lookup f5 = some ⟨oc5, od5, .func (PySem.W.fnOf "kind_parts" "kind_parts" (defArgs sParts) (defBody sParts) (defScope sParts) .none kV5 dc5 pm5 an5 cd5 ct5), sl5⟩)
    (c5 : PySem.W.codeIn K cd5 "kind_parts" = true)
    (k5 : PySem.W.keepIn K (.ref f5) = true)
    (a6 : PySem.W.nsIn K mainGlobals "replace_names" = some (some (.ref f6)))
    (l6 : K.lookup f6 = some ⟨oc6, od6, .func (PySem.W.fnOf "replace_names" "replace_names" (defArgs sNames) (defBody sNames) (defScope sNames) .none kV6 dc6 pm6 an6 cd6 ct6), sl6⟩)
    (c6 : PySem.W.codeIn K cd6 "replace_names" = true)
    (k6 : PySem.W.keepIn K (.ref f6) = true)
    (a7 : PySem.W.nsIn K mainGlobals "replace_leaves" = some (some (.ref f7)))
    (l7 : K.lookup f7 = some ⟨oc7, od7, .func (PySem.W.fnOf "replace_leaves" "replace_leaves" (defArgs sRepl) (defBody sRepl) (defScope sRepl) .none kV7 dc7 pm7 an7 cd7 ct7), sl7⟩)
    (c7 : PySem.W.codeIn K cd7 "replace_leaves" = true)
    (k7 : PySem.W.keepIn K (.ref f7) = true)
    (a8 : PySem.W.nsIn K mainGlobals "_with_kind_parts" = some (some (.ref f8)))
    (l8 : K.lookup f8 = some ⟨oc8, od8, .func (PySem.W.fnOf "_with_kind_parts" "_with_kind_parts" (defArgs sWith) (defBody sWith) (defScope sWith) .none kV8 dc8 pm8 an8 cd8 ct8), sl8⟩)
    (c8 : PySem.W.codeIn K cd8 "_with_kind_parts" = true)
    (k8 : PySem.W.keepIn K (.ref f8) = true)
    (a9 : PySem.W.nsIn K mainGlobals "variable_name" = some (some (.ref f9)))
    (l9 : K.lookup f9 = some ⟨oc9, od9, .func (PySem.W.fnOf "variable_name" "variable_name" (defArgs sVName) (defBody sVName) (defScope sVName) .none kV9 dc9 pm9 an9 cd9 ct9), sl9⟩)
    (c9 : PySem.W.codeIn K cd9 "variable_name" = true)
    (k9 : PySem.W.keepIn K (.ref f9) = true)
    (a10 : PySem.W.nsIn K mainGlobals "_law_draws" = some (some (.ref f10)))
    (l10 : K.lookup f10 = some ⟨oc10, od10, .func (PySem.W.fnOf "_law_draws" "_law_draws" (defArgs sDraws) (defBody sDraws) (defScope sDraws) .none kV10 dc10 pm10 an10 cd10 ct10), sl10⟩)
    (c10 : PySem.W.codeIn K cd10 "_law_draws" = true)
    (k10 : PySem.W.keepIn K (.ref f10) = true)
    (a11 : PySem.W.nsIn K mainGlobals "_law_reader" = some (some (.ref f11)))
    (l11 : K.lookup f11 = some ⟨oc11, od11, .func (PySem.W.fnOf "_law_reader" "_law_reader" (defArgs sReader) (defBody sReader) (defScope sReader) .none kV11 dc11 pm11 an11 cd11 ct11), sl11⟩)
    (c11 : PySem.W.codeIn K cd11 "_law_reader" = true)
    (k11 : PySem.W.keepIn K (.ref f11) = true)
    (a12 : PySem.W.nsIn K mainGlobals "_law_next" = some (some (.ref f12)))
    (l12 : K.lookup f12 = some ⟨oc12, od12, .func (PySem.W.fnOf "_law_next" "_law_next" (defArgs sNext) (defBody sNext) (defScope sNext) .none kV12 dc12 pm12 an12 cd12 ct12), sl12⟩)
    (c12 : PySem.W.codeIn K cd12 "_law_next" = true)
    (k12 : PySem.W.keepIn K (.ref f12) = true)
    (a13 : PySem.W.nsIn K mainGlobals "_law_kind" = some (some (.ref f13)))
    (l13 : K.lookup f13 = some ⟨oc13, od13, .func (PySem.W.fnOf "_law_kind" "_law_kind" (defArgs sKind) (defBody sKind) (defScope sKind) .none kV13 dc13 pm13 an13 cd13 ct13), sl13⟩)
    (c13 : PySem.W.codeIn K cd13 "_law_kind" = true)
    (k13 : PySem.W.keepIn K (.ref f13) = true)
    (a14 : PySem.W.nsIn K mainGlobals "_law_leaves" = some (some (.ref f14)))
    (l14 : K.lookup f14 = some ⟨oc14, od14, .func (PySem.W.fnOf "_law_leaves" "_law_leaves" (defArgs sLLeaves) (defBody sLLeaves) (defScope sLLeaves) .none kV14 dc14 pm14 an14 cd14 ct14), sl14⟩)
    (c14 : PySem.W.codeIn K cd14 "_law_leaves" = true)
    (k14 : PySem.W.keepIn K (.ref f14) = true)
    (a15 : PySem.W.nsIn K mainGlobals "_law_first" = some (some (.ref f15)))
    (l15 : K.lookup f15 = some ⟨oc15, od15, .func (PySem.W.fnOf "_law_first" "_law_first" (defArgs sLFirst) (defBody sLFirst) (defScope sLFirst) .none kV15 dc15 pm15 an15 cd15 ct15), sl15⟩)
    (c15 : PySem.W.codeIn K cd15 "_law_first" = true)
    (k15 : PySem.W.keepIn K (.ref f15) = true)
    (a16 : PySem.W.nsIn K mainGlobals "_law_put" = some (some (.ref f16)))
    (l16 : K.lookup f16 = some ⟨oc16, od16, .func (PySem.W.fnOf "_law_put" "_law_put" (defArgs sPut) (defBody sPut) (defScope sPut) .none kV16 dc16 pm16 an16 cd16 ct16), sl16⟩)
    (c16 : PySem.W.codeIn K cd16 "_law_put" = true)
    (k16 : PySem.W.keepIn K (.ref f16) = true)
    (a17 : PySem.W.nsIn K mainGlobals "law" = some (some (.ref f17)))
    (l17 : K.lookup f17 = some ⟨oc17, od17, .func (PySem.W.fnOf "law" "law" (defArgs sLaw) (defBody sLaw) (defScope sLaw) .none kV17 dc17 pm17 an17 cd17 ct17), sl17⟩)
    (c17 : PySem.W.codeIn K cd17 "law" = true)
    (k17 : PySem.W.keepIn K (.ref f17) = true)
    (cstL : PySem.W.nsIn K mainGlobals "LETTERS" = some (some (.str "abcdefghijklmnopqrstuvwxyz" tkL)))
    (gtI : PySem.W.nsIn K mainGlobals "INT" = some (some (.ref aI)))
    (ltI : K.lookup aI = some ⟨ocI, ofI, .seq itI nI, slI⟩)
    (ctI : ocI = .type "tuple")
    (vtI : itI.toList = [.str "con" tI1, .str "Int" tI2, .ref eI])
    (leI : K.lookup eI = some ⟨ocE, ofE, .seq itE nE, slE⟩)
    (ceI : ocE = .type "tuple")
    (veI : itE.toList = [])
    (gtB : PySem.W.nsIn K mainGlobals "BOOL" = some (some (.ref aB)))
    (ltB : K.lookup aB = some ⟨ocB, ofB, .seq itB nB, slB⟩)
    (ctB : ocB = .type "tuple")
    (vtB : itB.toList = [.str "con" tB1, .str "Bool" tB2, .ref eB])
    (leB : K.lookup eB = some ⟨odE, ofD, .seq itD nD, slD⟩)
    (ceB : odE = .type "tuple")
    (veB : itD.toList = [])
    (zlen : PySem.W.nsIn K mainGlobals "len" = some none)
    (zmin : PySem.W.nsIn K mainGlobals "min" = some none)
    (zint : PySem.W.nsIn K mainGlobals "int" = some none)
    (zrange : PySem.W.nsIn K mainGlobals "range" = some none)
    (zabs : PySem.W.nsIn K mainGlobals "abs" = some none)
    (ztuple : PySem.W.nsIn K mainGlobals "tuple" = some none)
    (zlist : PySem.W.nsIn K mainGlobals "list" = some none)
    (zzip : PySem.W.nsIn K mainGlobals "zip" = some none)
    (zreversed : PySem.W.nsIn K mainGlobals "reversed" = some none)
    (zstr : PySem.W.nsIn K mainGlobals "str" = some none)
    (zdict : PySem.W.nsIn K mainGlobals "dict" = some none) :
    ∃ fd : FuncData, (∀ (s : Shared) (v : Value), BindsTo s fd ⟨[v], []⟩ [("script", v)]) ∧ ∀ base : Heap, K.In base → base.Ns mainGlobals mg → FnOk l.prog w K mg base CX0 9 fa fd ["script"] (spLaw K) := by
  have e := hfa.symm.trans (PySem.W.mg_of X G a17)
  cases e
  have nlen := PySem.W.mg_none_of X G zlen
  have nmin := PySem.W.mg_none_of X G zmin
  have nint := PySem.W.mg_none_of X G zint
  have nrange := PySem.W.mg_none_of X G zrange
  have nabs := PySem.W.mg_none_of X G zabs
  have ntuple := PySem.W.mg_none_of X G ztuple
  have nlist := PySem.W.mg_none_of X G zlist
  have nzip := PySem.W.mg_none_of X G zzip
  have nreversed := PySem.W.mg_none_of X G zreversed
  have nstr := PySem.W.mg_none_of X G zstr
  have ndict := PySem.W.mg_none_of X G zdict
  have FListOf := fun_mk (st := sListOf) l0 c0 k0
  have bListOf := FListOf.binds (ps := ["kind"]) fun _ _ _ _ _ _ us hl => match us, hl with | [_], _ => rfl
  have mListOf := PySem.W.mg_of X G a0
  have FFunc := fun_mk (st := sFunc) l1 c1 k1
  have bFunc := FFunc.binds (ps := ["arguments", "result"]) fun _ _ _ _ _ _ us hl => match us, hl with | [_, _], _ => rfl
  have mFunc := PySem.W.mg_of X G a1
  have FVars := fun_mk (st := sVars) l2 c2 k2
  have bVars := FVars.binds (ps := ["kind"]) fun _ _ _ _ _ _ us hl => match us, hl with | [_], _ => rfl
  have mVars := PySem.W.mg_of X G a2
  have FMetas := fun_mk (st := sMetas) l3 c3 k3
  have bMetas := FMetas.binds (ps := ["kind"]) fun _ _ _ _ _ _ us hl => match us, hl with | [_], _ => rfl
  have mMetas := PySem.W.mg_of X G a3
  have FLeaves := fun_mk (st := sLeaves) l4 c4 k4
  have bLeaves := FLeaves.binds (ps := ["kind", "word"]) fun _ _ _ _ _ _ us hl => match us, hl with | [_, _], _ => rfl
  have mLeaves := PySem.W.mg_of X G a4
  have FParts := fun_mk (st := sParts) l5 c5 k5
  have bParts := FParts.binds (ps := ["kind"]) fun _ _ _ _ _ _ us hl => match us, hl with | [_], _ => rfl
  have mParts := PySem.W.mg_of X G a5
  have FNames := fun_mk (st := sNames) l6 c6 k6
  have bNames := FNames.binds (ps := ["kind", "types"]) fun _ _ _ _ _ _ us hl => match us, hl with | [_, _], _ => rfl
  have mNames := PySem.W.mg_of X G a6
  have FRepl := fun_mk (st := sRepl) l7 c7 k7
  have bRepl := FRepl.binds (ps := ["kind", "word", "types", "again"]) fun _ _ _ _ _ _ us hl => match us, hl with | [_, _, _, _], _ => rfl
  have mRepl := PySem.W.mg_of X G a7
  have FWith := fun_mk (st := sWith) l8 c8 k8
  have bWith := FWith.binds (ps := ["kind", "parts"]) fun _ _ _ _ _ _ us hl => match us, hl with | [_, _], _ => rfl
  have mWith := PySem.W.mg_of X G a8
  have FVName := fun_mk (st := sVName) l9 c9 k9
  have bVName := FVName.binds (ps := ["index"]) fun _ _ _ _ _ _ us hl => match us, hl with | [_], _ => rfl
  have mVName := PySem.W.mg_of X G a9
  have FDraws := fun_mk (st := sDraws) l10 c10 k10
  have bDraws := FDraws.binds (ps := ["script"]) fun _ _ _ _ _ _ us hl => match us, hl with | [_], _ => rfl
  have mDraws := PySem.W.mg_of X G a10
  have FReader := fun_mk (st := sReader) l11 c11 k11
  have bReader := FReader.binds (ps := ["script"]) fun _ _ _ _ _ _ us hl => match us, hl with | [_], _ => rfl
  have mReader := PySem.W.mg_of X G a11
  have FNext := fun_mk (st := sNext) l12 c12 k12
  have bNext := FNext.binds (ps := ["draws", "many"]) fun _ _ _ _ _ _ us hl => match us, hl with | [_, _], _ => rfl
  have mNext := PySem.W.mg_of X G a12
  have FKind := fun_mk (st := sKind) l13 c13 k13
  have bKind := FKind.binds (ps := ["draws", "depth"]) fun _ _ _ _ _ _ us hl => match us, hl with | [_, _], _ => rfl
  have mKind := PySem.W.mg_of X G a13
  have FLLeaves := fun_mk (st := sLLeaves) l14 c14 k14
  have bLLeaves := FLLeaves.binds (ps := ["kind"]) fun _ _ _ _ _ _ us hl => match us, hl with | [_], _ => rfl
  have mLLeaves := PySem.W.mg_of X G a14
  have FLFirst := fun_mk (st := sLFirst) l15 c15 k15
  have bLFirst := FLFirst.binds (ps := ["kind", "word"]) fun _ _ _ _ _ _ us hl => match us, hl with | [_, _], _ => rfl
  have mLFirst := PySem.W.mg_of X G a15
  have FPut := fun_mk (st := sPut) l16 c16 k16
  have bPut := FPut.binds (ps := ["kind", "table"]) fun _ _ _ _ _ _ us hl => match us, hl with | [_, _], _ => rfl
  have mPut := PySem.W.mg_of X G a16
  have FLaw := fun_mk (st := sLaw) l17 c17 k17
  have bLaw := FLaw.binds (ps := ["script"]) fun _ _ _ _ _ _ us hl => match us, hl with | [_], _ => rfl
  have mLaw := PySem.W.mg_of X G a17
  refine ⟨PySem.W.fnOf "law" "law" (defArgs sLaw) (defBody sLaw) (defScope sLaw) .none kV17 dc17 pm17 an17 cd17 ct17, fun s v => .of_eq rfl, fun base _ _ => ?_⟩
  have TD : TxtD mg := ⟨nlen, nmin, nint, nrange, nabs⟩
  have T : TxtT mg := ⟨ntuple, nlist, nzip, nlen⟩
  have TE : TxtE mg := ⟨ntuple, nlen, nreversed, nstr, nrange, ⟨_, PySem.W.mg_of X G cstL, _, rfl⟩⟩
  have TL : TxtL K mg aI aB := ⟨nrange, nlen, ntuple, nstr, ndict, ⟨_, PySem.W.mg_of X G gtI, rfl⟩, ⟨_, PySem.W.mg_of X G gtB, rfl⟩, written_con ltI ctI vtI leI ceI veI, written_con ltB ctB vtB leB ceB veB⟩
  have Cparts := c_parts (P := l.prog) (w := w) (base := base) FParts bParts mParts
  have Cleaves := c_leaves (P := l.prog) (w := w) (base := base) T Cparts FLeaves bLeaves mLeaves
  have Cvars := c_vars (P := l.prog) (w := w) (base := base) Cleaves FVars bVars mVars
  have Cmetas := c_metas (P := l.prog) (w := w) (base := base) Cleaves FMetas bMetas mMetas
  have Cwith := c_with (P := l.prog) (w := w) (base := base) T FWith bWith mWith
  have Crepl := c_repl (P := l.prog) (w := w) (base := base) T Cparts Cwith FRepl bRepl mRepl
  have Cnames := c_names (P := l.prog) (w := w) (base := base) Crepl FNames bNames mNames
  have ClistOf := c_listOf (P := l.prog) (w := w) (base := base) FListOf bListOf mListOf
  have Cfunc := c_func (P := l.prog) (w := w) (base := base) TE FFunc bFunc mFunc
  have Cvname := c_vname (P := l.prog) (w := w) (base := base) TE FVName bVName mVName
  have Cdraws := c_draws (P := l.prog) (w := w) (base := base) TD FDraws bDraws mDraws
  have Creader := c_reader (P := l.prog) (w := w) (base := base) TD Cdraws FReader bReader mReader
  have Cnext := c_next (P := l.prog) (w := w) (base := base) TD FNext bNext mNext
  have Ckind := c_kind (P := l.prog) (w := w) (base := base) TE Cnext FKind bKind mKind 6
  have Clleaves := c_lleaves (P := l.prog) (w := w) (base := base) TE FLLeaves bLLeaves mLLeaves 6
  have Clfirst := c_lfirst (P := l.prog) (w := w) (base := base) TE Clleaves FLFirst bLFirst mLFirst
  have Cput := c_put (P := l.prog) (w := w) (base := base) T FPut bPut mPut 6
  exact c_law TL Creader Cnext Ckind Cvars Cmetas Clfirst Cnames Cput Cfunc ClistOf Cvname FLaw
theorem walk {l : PySem.W.OpenLaw} {q : Program} {loose : List Str} {XP : (Str → Option Value) → Heap → Prop} {YP : World → Heap → Prop} {d : DefRec} {K : Params → PySem.W.Frag} (hn : l.most = some 63) (hdf : d.params.defaults = [])
    (hY : ∀ (w : World) (h : Heap), YP w h → (K w.params).In h)
    (F : ∀ (w : World) (mg : Str → Option Value) (fa : Addr) (h : Heap), (K w.params).In h → h.Ns mainGlobals mg → mg d.name = some (.ref fa) →
      ∃ fd : FuncData, (∀ (s : Shared) (u : Value), BindsTo s fd ⟨[u], []⟩ [("script", u)]) ∧ ∀ base : Heap, (K w.params).In base → base.Ns mainGlobals mg → FnOk l.prog w (K w.params) mg base CX0 9 fa fd ["script"] (spLaw (K w.params))) :
    PySem.W.WalkO q loose XP YP l.row.toRowW d [] (fun f vs => PySem.call f vs) :=
  L2.walk_of (n := 63) (k := 9) (x := "script") (CX := fun _ => CX0) (sp := fun w => spLaw (K w.params)) hn (by decide) hdf ⟨rfl, by decide, by decide⟩ hY F (fun _ _ a ns hl _ hS => ⟨a, ns, rfl, hS, hl, fun _ => rfl⟩) fun _ _ _ _ _ z => z
end Toy
open PySem PySem.W PyProof.Rows
set_option maxRecDepth 100000 in
set_option maxHeartbeats 0 in
theorem PySem.Challenge.cw_needonce_k23_parts_of_types_holds : PySem.Challenge.rw_needonce_k23_parts_of_types.Holds := by
  w_on; o_law; k_head; (case hw => w_witness2)
  k_fill
  refine Toy.walk (l := PySem.Challenge.rw_needonce_k23_parts_of_types) rfl rfl (fun w h Y => PySem.W.kIn_of Y) ?F
  case F =>
    intro w mg fa h KX G hmg
    refine' Toy.all_mk KX G hmg ?a0 ?l0 ?c0 ?k0 ?a1 ?l1 ?c1 ?k1 ?a2 ?l2 ?c2 ?k2 ?a3 ?l3 ?c3 ?k3 ?a4 ?l4 ?c4 ?k4 ?a5 ?l5 ?c5 ?k5 ?a6 ?l6 ?c6 ?k6 ?a7 ?l7 ?c7 ?k7 ?a8 ?l8 ?c8 ?k8 ?a9 ?l9 ?c9 ?k9 ?a10 ?l10 ?c10 ?k10 ?a11 ?l11 ?c11 ?k11 ?a12 ?l12 ?c12 ?k12 ?a13 ?l13 ?c13 ?k13 ?a14 ?l14 ?c14 ?k14 ?a15 ?l15 ?c15 ?k15 ?a16 ?l16 ?c16 ?k16 ?a17 ?l17 ?c17 ?k17 ?cstL ?gtI ?ltI ?ctI ?vtI ?leI ?ceI ?veI ?gtB ?ltB ?ctB ?vtB ?leB ?ceB ?veB ?zlen ?zmin ?zint ?zrange ?zabs ?ztuple ?zlist ?zzip ?zreversed ?zstr ?zdict
    (case a0 => k_is)
    (case l0 => k_is)
    (case c0 => k_is)
    (case k0 => k_is)
    (case a1 => k_is)
    (case l1 => k_is)
    (case c1 => k_is)
    (case k1 => k_is)
    (case a2 => k_is)
    (case l2 => k_is)
    (case c2 => k_is)
    (case k2 => k_is)
    (case a3 => k_is)
    (case l3 => k_is)
    (case c3 => k_is)
    (case k3 => k_is)
    (case a4 => k_is)
    (case l4 => k_is)
    (case c4 => k_is)
    (case k4 => k_is)
    (case a5 => k_is)
    (case l5 => k_is)
    (case c5 => k_is)
    (case k5 => k_is)
    (case a6 => k_is)
    (case l6 => k_is)
    (case c6 => k_is)
    (case k6 => k_is)
    (case a7 => k_is)
    (case l7 => k_is)
    (case c7 => k_is)
    (case k7 => k_is)
    (case a8 => k_is)
    (case l8 => k_is)
    (case c8 => k_is)
    (case k8 => k_is)
    (case a9 => k_is)
    (case l9 => k_is)
    (case c9 => k_is)
    (case k9 => k_is)
    (case a10 => k_is)
    (case l10 => k_is)
    (case c10 => k_is)
    (case k10 => k_is)
    (case a11 => k_is)
    (case l11 => k_is)
    (case c11 => k_is)
    (case k11 => k_is)
    (case a12 => k_is)
    (case l12 => k_is)
    (case c12 => k_is)
    (case k12 => k_is)
    (case a13 => k_is)
    (case l13 => k_is)
    (case c13 => k_is)
    (case k13 => k_is)
    (case a14 => k_is)
    (case l14 => k_is)
    (case c14 => k_is)
    (case k14 => k_is)
    (case a15 => k_is)
    (case l15 => k_is)
    (case c15 => k_is)
    (case k15 => k_is)
    (case a16 => k_is)
    (case l16 => k_is)
    (case c16 => k_is)
    (case k16 => k_is)
    (case a17 => k_is)
    (case l17 => k_is)
    (case c17 => k_is)
    (case k17 => k_is)
    (case cstL => k_is)
    (case gtI => k_is)
    (case ltI => k_is)
    (case ctI => rfl)
    (case vtI => rfl)
    (case leI => k_is)
    (case ceI => rfl)
    (case veI => rfl)
    (case gtB => k_is)
    (case ltB => k_is)
    (case ctB => rfl)
    (case vtB => rfl)
    (case leB => k_is)
    (case ceB => rfl)
    (case veB => rfl)
    (case zlen => k_is)
    (case zmin => k_is)
    (case zint => k_is)
    (case zrange => k_is)
    (case zabs => k_is)
    (case ztuple => k_is)
    (case zlist => k_is)
    (case zzip => k_is)
    (case zreversed => k_is)
    (case zstr => k_is)
    (case zdict => k_is)

