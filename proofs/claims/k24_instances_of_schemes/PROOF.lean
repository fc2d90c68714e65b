import PyProof.Rows.All
import Wide.All
import OpenK.AllK
import Wide.FinOn
import HandS.ForMost
import HandS.Codes
import HandS.IsInst
import HandS.Conv
import HandS.StrMore
import KE.OsScanText
import KE.KStrWords
import KE.KxText
import PySem.Challenge.RW_needonce_k24_instances_of_schemes
import HandS.TupAny
import KE.KRevSl
import HandS.More
import HandS.Zip0
import HandS.ListItems
import KE.KDictZip
import HandS.SetKeys
import HandS.DictTup
import HandS.TupLe
set_option Elab.async false
set_option maxRecDepth 100000
set_option maxHeartbeats 4000000
/-! Part A: how defs are called, the drawing of numbers from the script. -/
namespace Toy
open PySem L2
open PyProof.Rows (envOfC)
def topS (i : Nat) : Stmt := PySem.Challenge.pw_needonce_k24_instances_of_schemes.main.body.getD i (.Pass ⟨0, 0, 0, 0⟩)
theorem boot_min : bootBuiltins "min" = some (.builtin "min") := by decide +kernel
theorem boot_isinstance : bootBuiltins "isinstance" = some (.builtin "isinstance") := by decide +kernel
theorem boot_abs : bootBuiltins "abs" = some (.builtin "abs") := by decide +kernel
theorem boot_int : bootBuiltins "int" = some (.type "int") := by decide +kernel
theorem boot_list : bootBuiltins "list" = some (.type "list") := by decide +kernel
/-- a written row of texts: what it is -/
def tStrs (zs : List Str) : TA := fun _ H Q => Q (zs.map V.str) H
def strE : Expr → Option Str
  | .Constant (.str z) _ _ => some z
  | _ => none
theorem strE_is {e : Expr} {z : Str} (h : strE e = some z) : ∃ j pos, e = .Constant (.str z) j pos := by
  unfold strE at h
  split at h
  · cases h
    exact ⟨_, _, rfl⟩
  · cases h
/-- a written row of texts -/
theorem pa_strs {X : Cx} : ∀ {es : List Expr} {zs : List Str}, es.map strE = zs.map some → PA X es (tStrs zs)
  | [], [], _ => pa_nil
  | [], _ :: _, h => by cases h
  | _ :: _, [], h => by cases h
  | e :: es, z :: zs, h => by
    rw [List.map_cons, List.map_cons] at h
    obtain ⟨h1, h2⟩ := List.cons.inj h
    obtain ⟨j, pos, rfl⟩ := strE_is h1
    exact pa_cons pe_str (pa_strs h2)
theorem strs_read {zs : List Str} {σ : L2.St} {H : Hp} {Q : List V → Hp → Prop} (h : Q (zs.map V.str) H) : tStrs zs σ H Q := h
/-- what the proofs ask of the module's names -/
structure TxtD (mg : Str → Option Value) : Prop where
  zlen : mg "len" = none
  zmin : mg "min" = none
  zint : mg "int" = none
  zrange : mg "range" = none
  zabs : mg "abs" = none
section
variable {P : Program} {w : World} {K : PySem.W.Frag} {mg : Str → Option Value} {base : Heap} 
/-- a def as one that may be called by its name -/
theorem cal_of {x : Str} {st : Stmt} {f : Addr} {fd : FuncData} {N ps : List Str} {k : Nat} {sp : Sp} (F : Fun K x x st f fd) (hm : mg x = some (.ref f)) (b : Binds K fd ps []) (S : FnScope N ps (defScope st)) (len : ∀ vs H Q E, sp vs H Q E → vs.length = ps.length)
    (hbody : ∀ (cdv : Value) (A : Around) (outer : List Env) (s : Shared) (H : Hp) (vs : List V) (Q : VK) (E : XK), Room k (A.deeper (envOfC x (defScope st) s.heap.objs.size f cdv)) → sp vs H Q E →
      ∃ t, PSs (cxOf CX0 P w K mg base N x (defScope st) f cdv A outer s H E).nox (defBody st) t ∧ t { nx := fun _ H' => Q .non H', rt := Q } (start N vs) H) : C8.Cal P w K mg base (k + 1) x sp [] :=
  ⟨f, fd, ps, [], F.ok S len hbody, hm, F.kp, b, .nil⟩
theorem same_new {H : Hp} {p : Addr} (h : H p = none) (o : HO) : Same H (upd H p o) := fun b u q => by rw [upd_ne (ne_of_none q h)]; exact q
theorem same_upd {H H' : Hp} {p : Addr} (h : H p = none) (s : Same H H') (o : HO) : Same H (upd H' p o) := fun b u q => by rw [upd_ne (ne_of_none q h)]; exact s b u q
theorem szl {n : Nat} (h : n ≤ 100000) : n < sizeLine := Nat.lt_of_le_of_lt h (by decide)
theorem at_ok {α : Type} {xs : List α} {k : Nat} (h : k < xs.length) : atI xs (0 + (k : Int)) = some xs[k] := by
  rw [Int.zero_add]
  exact atI_nat (List.getElem?_eq_getElem h)
theorem at_int {ns : List Int} {i : Int} (h0 : 0 ≤ i) (h1 : i < (ns.length : Int)) : ∃ v : Int, atI (ns.map V.int) i = some (.int v) := by
  have hk : i.toNat < ns.length := by omega
  refine ⟨ns[i.toNat], ?_⟩
  have q : atI (ns.map V.int) ((i.toNat : Nat) : Int) = some (.int ns[i.toNat]) := atI_nat (by rw [List.getElem?_map, List.getElem?_eq_getElem hk] <;> rfl)
  rw [show ((i.toNat : Nat) : Int) = i by omega] at q
  exact q

/-! ### the draws of a script -/
def dk3 (r : Addr) (i z : Int) : List (Key × V) := [(Sum.inr "row", .ref r), (Sum.inr "at", .int i), (Sum.inr "seed", .int z)]
theorem nk_ra : ¬ (Sum.inr ("row" : Str) : Key) = Sum.inr ("at" : Str) := by decide +kernel
theorem nk_rs : ¬ (Sum.inr ("row" : Str) : Key) = Sum.inr ("seed" : Str) := by decide +kernel
theorem nk_as : ¬ (Sum.inr ("at" : Str) : Key) = Sum.inr ("seed" : Str) := by decide +kernel
theorem nk_sa : ¬ (Sum.inr ("seed" : Str) : Key) = Sum.inr ("at" : Str) := by decide +kernel
theorem dk_row (r : Addr) (i z : Int) : valV (dk3 r i z) (Sum.inr "row" : Key) = some (.ref r) := valV_pos rfl
theorem dk_at (r : Addr) (i z : Int) : valV (dk3 r i z) (Sum.inr "at" : Key) = some (.int i) := (valV_neg nk_ra).trans (valV_pos rfl)
theorem dk_seed (r : Addr) (i z : Int) : valV (dk3 r i z) (Sum.inr "seed" : Key) = some (.int z) := (valV_neg nk_rs).trans ((valV_neg nk_as).trans (valV_pos rfl))
theorem dk_put (r : Addr) (i z j : Int) : putK (dk3 r i z) (Sum.inr "at" : Key) (.int j) = dk3 r j z := by
  have h1 : ¬ ("row" : Str) = "at" := by decide +kernel
  have h2 : ¬ ("seed" : Str) = "at" := by decide +kernel
  simp [putK, dk3, h1, h2]
theorem dk_merge (r : Addr) (z : Int) : mergeK [] [(Sum.inr "row", .ref r), (Sum.inr "at", .int 0), (Sum.inr "seed", .int z)] = dk3 r 0 z := by
  have h1 : ¬ ("row" : Str) = "at" := by decide +kernel
  have h2 : ¬ ("row" : Str) = "seed" := by decide +kernel
  have h3 : ¬ ("at" : Str) = "seed" := by decide +kernel
  simp [mergeK, putK, dk3, h1, h2, h3]
/-- a reader of draws stands at p -/
def DrawsAt (H : Hp) (p r : Addr) : Prop := ∃ (row : List Int) (i : Nat) (z : Int), H p = some (.dK (dk3 r (i : Int) z)) ∧ H r = some (.lst (row.map V.int))
theorem DrawsAt.same {H H' : Hp} {p r : Addr} (d : DrawsAt H p r) (s : Same H H') : DrawsAt H' p r := by
  obtain ⟨row, i, z, h1, h2⟩ := d
  exact ⟨row, i, z, s _ _ h1, s _ _ h2⟩
/-- all but p stays -/
def Keep (p : Addr) (H H' : Hp) : Prop := ∀ b o, b ≠ p → H b = some o → H' b = some o
abbrev sNext : Stmt := topS 9
theorem scNext : FnScope ["draws", "many", "at", "mixed"] ["draws", "many"] (defScope sNext) := ⟨rfl, rfl, rfl, by decide +kernel, rfl, by decide +kernel, by decide +kernel⟩
/-- some number below m; the reader moves on -/
def spNext : Sp := fun vs H Q _ => ∃ (p r : Addr) (m : Int), vs = [.ref p, .int m] ∧ 0 < m ∧ DrawsAt H p r ∧ ∀ (n : Int) (H' : Hp), 0 ≤ n → n < m → Keep p H H' → DrawsAt H' p r → Q (.int n) H'
theorem c_next {f : Addr} {fd : FuncData} (T : TxtD mg) (F : Fun K "_law_next" "_law_next" sNext f fd) (b : Binds K fd ["draws", "many"] []) (hm : mg "_law_next" = some (.ref f)) : C8.Cal P w K mg base 2 "_law_next" spNext [] := by
  refine cal_of F hm b scNext (fun vs H Q E h => ?_) (fun cdv A outer s H vs Q E hr h => ?_)
  · obtain ⟨p, r, m, rfl, _⟩ := h
    rfl
  obtain ⟨p, r, m, rfl, hm0, ⟨row, i, z, hp, hrow⟩, q⟩ := h
  have hu := hu_of hr
  have npr : r ≠ p := ne_of hrow hp (by intro z; cases z)
  refine ⟨_, (pss_cons (ps_set (i := 2) scNext.nd rfl (Or.inl rfl) (pe_dget hu (pv 0) pe_str (fun _ _ => rfl)))
    (pss_cons (ps_dput hu (pv 0) pe_str (pe_op op_add (pv 2) pe_int) rfl)
    (pss_cons (ps_if (pt_cmpR op_lt (pv 2) (pe_callB call_len_seq rfl T.zlen PySem.boot_len (pa_cons (pe_dget hu (pv 0) pe_str (fun _ _ => rfl)) pa_nil)) (nomark _))
      (pss_one (ps_ret (pe_op op_mod (pe_ix ix_list (pe_dget hu (pv 0) pe_str (fun _ _ => rfl)) (pv 2) (fun _ _ => rfl)) (pv 1))))
      pss_nil)
    (pss_cons (ps_set (i := 3) scNext.nd rfl (Or.inl rfl) (pe_op op_mod (pe_callTy call_int1 rfl T.zint boot_int (pa_cons (pe_op op_mul (pe_op op_add (pe_op op_add (pe_dget hu (pv 0) pe_str (fun _ _ => rfl)) (pe_op op_mul pe_int (pv 2))) pe_int) pe_int) pa_nil)) pe_int))
    (pss_one (ps_ret (pe_op op_mod (pe_op op_fdiv (pe_op op_mod (pe_callTy call_int1 rfl T.zint boot_int (pa_cons (pe_op op_add (pe_op op_mul (pv 3) (pv 3)) (pv 2)) pa_nil)) pe_int) pe_int) (pv 1)))))))), ?_⟩
  refine ⟨_, rfl, p, _, rfl, (dk_at r i z ▸ DGet.k (k := Sum.inr "at") hp), ?_⟩
  refine ⟨_, rfl, _, _, rfl, rfl, _, rfl, p, _, rfl, DPut.k (k := Sum.inr "at") hp (by show 3 < sizeLine; decide), ?_⟩
  rw [dk_put]
  have hp2 : upd H p (.dK (dk3 r ((i : Int) + 1) z)) p = some (.dK (dk3 r ((i : Int) + 1) z)) := upd_same
  have hr2 : upd H p (.dK (dk3 r ((i : Int) + 1) z)) r = some (.lst (row.map V.int)) := by rw [upd_ne npr]; exact hrow
  have fin : ∀ n : Int, 0 ≤ n → n < m → Q (.int n) (upd H p (.dK (dk3 r ((i : Int) + 1) z))) := fun n h0 h1 =>
    q n _ h0 h1 (fun b o hb e => by rw [upd_ne hb]; exact e) ⟨row, i + 1, z, by rw [upd_same]; rfl, hr2⟩
  refine ⟨_, rfl, _, rfl, p, _, rfl, (dk_row r _ z ▸ DGet.k (k := Sum.inr "row") hp2), r, _, rfl, .inl (SqL.of hr2), _, _, rfl, rfl, _, rfl, ?_⟩
  refine ite2 (fun c => ?_) (fun c => ?_)
  · have c' : (i : Int) < (((row.map V.int).length : Nat) : Int) := of_decide_eq_true c
    rw [List.length_map] at c'
    obtain ⟨v, hv⟩ := at_int (ns := row) (i := (i : Int)) (by omega) c'
    refine ⟨_, rfl, p, _, rfl, (dk_row r _ z ▸ DGet.k (k := Sum.inr "row") hp2), _, rfl, r, _, _, _, rfl, rfl, SqL.of hr2, hv, ?_⟩
    refine ⟨_, rfl, _, _, rfl, rfl, hm0, ?_⟩
    exact fin _ (Int.emod_nonneg _ (by omega)) (Int.emod_lt_of_pos _ hm0)
  · refine ⟨_, rfl, p, _, rfl, (dk_seed r _ z ▸ DGet.k (k := Sum.inr "seed") hp2), _, rfl, _, _, rfl, rfl, .inl (by decide), _, _, rfl, rfl, _, _, rfl, rfl, _, _, rfl, rfl, .inr (by decide), .inl ⟨_, rfl, _, _, rfl, rfl, (show (0 : Int) < 2147483647 by decide), ?_⟩⟩
    refine ⟨_, rfl, _, rfl, _, _, rfl, rfl, .inl ?_, _, rfl, _, _, rfl, rfl, .inl ⟨_, rfl, _, _, rfl, rfl, (show (0 : Int) < 2147483629 by decide), _, _, rfl, rfl, ⟨by decide, by decide⟩, _, rfl, _, _, rfl, rfl, hm0, ?_⟩⟩
    · omega
    · exact fin _ (Int.emod_nonneg _ (by omega)) (Int.emod_lt_of_pos _ hm0)
abbrev sDraws : Stmt := topS 7
theorem scDraws : FnScope ["script", "draws", "k", "cell", "turn", "mixed"] ["script"] (defScope sDraws) := ⟨rfl, rfl, rfl, by decide +kernel, rfl, by decide +kernel, by decide +kernel⟩
/-- some row of whole numbers, not longer than 1260 -/
def spDraws (K : PySem.W.Frag) : Sp := fun vs H Q _ => ∃ (a : Addr) (ns : List Int), vs = [.ref a] ∧ SqL K H a (ns.map V.int) ∧ ns.length ≤ 63 ∧ ∀ (r : Addr) (row : List Int) (H' : Hp), H r = none → Same H H' → row.length ≤ 1260 → H' r = some (.lst (row.map V.int)) → Q (.ref r) H'
theorem c_draws {f : Addr} {fd : FuncData} (T : TxtD mg) (F : Fun K "_law_draws" "_law_draws" sDraws f fd) (b : Binds K fd ["script"] []) (hm : mg "_law_draws" = some (.ref f)) : C8.Cal P w K mg base 1 "_law_draws" (spDraws K) [] := by
  refine cal_of F hm b scDraws (fun vs H Q E h => ?_) (fun cdv A outer s H vs Q E hr h => ?_)
  · obtain ⟨a, ns, rfl, _⟩ := h
    rfl
  obtain ⟨a, ns, rfl, hS, h63, q⟩ := h
  refine ⟨_, (pss_cons (ps_set (i := 1) scDraws.nd rfl (Or.inl rfl) (pe_lst pa_nil))
    (pss_cons (ps_for PassesOwn.never rfl (pi_range1 rfl T.zrange (pa_cons (pe_callB (call_min2 rfl) rfl T.zmin boot_min (pa_cons (pe_callB call_len_seq rfl T.zlen PySem.boot_len (pa_cons (pv 0) pa_nil)) (pa_cons pe_int pa_nil))) pa_nil)) (pg_name (i := 2) scDraws.nd rfl (Or.inl rfl))
      (pss_cons (ps_set (i := 3) scDraws.nd rfl (Or.inl rfl) (pe_callB call_abs rfl T.zabs boot_abs (pa_cons (pe_ix ix_list (pv 0) (pv 2) (fun _ _ => rfl)) pa_nil)))
    (pss_one (ps_if (pt_cmpR op_ge (pv 3) (pe_op op_pow pe_int pe_int) (nomark _))
      (pss_one (ps_for PassesOwn.never rfl (pi_range1 rfl T.zrange (pa_cons pe_int pa_nil)) (pg_name (i := 4) scDraws.nd rfl (Or.inl rfl))
      (pss_one (ps_if (pt_cmpR op_gt (pv 3) pe_int (nomark _))
      (pss_cons (ps_expr (pe_bm PySem.F.plainAttrs_list PySem.F.slot_list_append PySem.F.type_list_append mt_append (pv 1) (pa_cons (pe_op op_mod (pv 3) pe_int) pa_nil)))
    (pss_one (ps_set (i := 3) scDraws.nd rfl (Or.inl rfl) (pe_op op_fdiv (pv 3) pe_int))))
      pss_nil))))
      (pss_cons (ps_set (i := 5) scDraws.nd rfl (Or.inl rfl) (pe_op op_mod (pe_callTy call_int1 rfl T.zint boot_int (pa_cons (pe_op op_add (pe_op op_add (pe_op op_mul (pe_ix ix_list (pv 0) (pv 2) (fun _ _ => rfl)) pe_int) (pe_op op_mul (pv 2) pe_int)) pe_int) pa_nil)) pe_int))
    (pss_one (ps_for PassesOwn.never rfl (pi_range1 rfl T.zrange (pa_cons pe_int pa_nil)) (pg_name (i := 4) scDraws.nd rfl (Or.inl rfl))
      (pss_cons (ps_set (i := 5) scDraws.nd rfl (Or.inl rfl) (pe_op op_mod (pe_callTy call_int1 rfl T.zint boot_int (pa_cons (pe_op op_add (pe_op op_add (pe_op op_mul (pv 5) (pv 5)) (pe_op op_mul (pv 4) pe_int)) pe_int) pa_nil)) pe_int))
    (pss_one (ps_expr (pe_bm PySem.F.plainAttrs_list PySem.F.slot_list_append PySem.F.type_list_append mt_append (pv 1) (pa_cons (pe_op op_mod (pv 5) pe_int) pa_nil))))))))))))
    (pss_one (ps_ret (pv 1))))), ?_⟩
  refine ⟨(by show 0 ≤ sizeLine; decide), fun r hr0 => ?_⟩
  refine ⟨_, rfl, a, _, rfl, .inl ((same_new hr0 _).seq hS), _, _, rfl, _, rfl, ?_, ?_, for_range
    (fun (k : Nat) σ H2 => ∃ (kk c t x : Option V) (row : List Int), σ = [some (.ref a), some (.ref r), kk, c, t, x] ∧ Same H H2 ∧ H2 r = some (.lst (row.map V.int)) ∧ row.length ≤ 20 * k)
    ⟨none, none, none, none, [], rfl, same_new hr0 _, upd_same, by simp⟩ ?_ ?_⟩
  · split <;> omega
  · rw [List.length_map]
    split <;> omega
  · rintro k σ H2 hk ⟨kk, c, t, x, row, rfl, s2, hrow, hl⟩
    have hk' : (k : Int) < (ns.length : Int) := by
      rw [List.length_map] at hk
      split at hk <;> omega
    obtain ⟨v, hv⟩ := at_int (ns := ns) (i := 0 + (k : Int)) (by omega) (by omega)
    refine ⟨_, rfl, _, rfl, a, _, _, _, rfl, rfl, s2.seq hS, hv, _, rfl, ?_⟩
    refine ⟨_, rfl, _, _, rfl, rfl, ⟨by decide, by decide, by decide⟩, _, _, rfl, rfl, _, rfl, ?_⟩
    refine ite2 (fun _ => ?_) (fun _ => ?_)
    · refine ⟨20, rfl, by decide, by decide, for_range (fun (j : Nat) σ H3 => ∃ (t x : Option V) (c : Int) (row : List Int), σ = [some (.ref a), some (.ref r), some (.int (0 + (k : Int))), some (.int c), t, x] ∧ Same H H3 ∧ H3 r = some (.lst (row.map V.int)) ∧ row.length ≤ 20 * k + j)
        ⟨_, _, _, row, rfl, s2, hrow, by omega⟩ ?_ ?_⟩
      · rintro j σ H3 hj ⟨t, x, c, row, rfl, s3, hrow, hl⟩
        refine ⟨_, rfl, _, _, rfl, rfl, _, rfl, ?_⟩
        refine ite2 (fun _ => ?_) (fun _ => ?_)
        · refine ⟨_, rfl, .inl ⟨rfl, _, SqL.of hrow⟩, _, rfl, _, _, rfl, rfl, (show (0 : Int) < 1000 by decide), r, _, _, rfl, rfl, hrow, szl (by rw [List.length_map]; omega), ?_⟩
          refine ⟨_, rfl, _, _, rfl, rfl, ⟨by decide, by decide⟩, ?_⟩
          refine ⟨_, _, _, row ++ [c % 1000], rfl, same_upd hr0 s3 _, ?_, ?_⟩
          · rw [upd_same, List.map_append]
            rfl
          · rw [List.length_append]
            show row.length + 1 ≤ _
            omega
        · exact ⟨_, _, _, row, rfl, s3, hrow, by omega⟩
      · rintro σ H3 ⟨t, x, c, row, rfl, s3, hrow, hl⟩
        exact ⟨_, _, _, _, row, rfl, s3, hrow, by omega⟩
    · refine ⟨_, rfl, _, rfl, a, _, _, _, rfl, rfl, s2.seq hS, hv, _, _, rfl, rfl, .inr (by decide), _, rfl, _, _, rfl, rfl, .inr (by decide), _, _, rfl, rfl, _, _, rfl, rfl, .inl ⟨_, rfl, _, _, rfl, rfl, (show (0 : Int) < 2147483647 by decide), ?_⟩⟩
      refine ⟨3, rfl, by decide, by decide, for_range (fun (j : Nat) σ H3 => ∃ (t : Option V) (c x : Int) (row : List Int), (0 ≤ x ∧ x < 2147483648) ∧ σ = [some (.ref a), some (.ref r), some (.int (0 + (k : Int))), some (.int c), t, some (.int x)] ∧ Same H H3 ∧ H3 r = some (.lst (row.map V.int)) ∧ row.length ≤ 20 * k + j)
        ⟨_, _, _, row, by omega, rfl, s2, hrow, by omega⟩ ?_ ?_⟩
      · rintro j σ H3 hj ⟨t, c, x, row, hx, rfl, s3, hrow, hl⟩
        refine ⟨_, rfl, _, rfl, _, _, rfl, rfl, .inl (by omega), _, rfl, _, _, rfl, rfl, .inr (by decide), _, _, rfl, rfl, _, _, rfl, rfl, .inl ⟨_, rfl, _, _, rfl, rfl, (show (0 : Int) < 2147483629 by decide), ?_⟩⟩
        refine ⟨_, rfl, .inl ⟨rfl, _, SqL.of hrow⟩, _, rfl, _, _, rfl, rfl, (show (0 : Int) < 1000 by decide), r, _, _, rfl, rfl, hrow, szl (by rw [List.length_map]; omega), ?_⟩
        refine ⟨_, _, _, row ++ [(x * x + (0 + (j : Int)) * 7919 + 17) % 2147483629 % 1000], ?_, rfl, same_upd hr0 s3 _, ?_, ?_⟩
        · omega
        · rw [upd_same, List.map_append]
          rfl
        · rw [List.length_append]
          show row.length + 1 ≤ _
          omega
      · rintro σ H3 ⟨t, c, x, row, hx, rfl, s3, hrow, hl⟩
        exact ⟨_, _, _, _, row, rfl, s3, hrow, by omega⟩
  · rintro σ H2 ⟨kk, c, t, x, row, rfl, s2, hrow, hl⟩
    refine ⟨_, rfl, q r row H2 hr0 s2 ?_ hrow⟩
    split at hl <;> omega
theorem at_last {ns : List Int} (h : 0 < (ns.length : Int)) : ∃ v : Int, atI (ns.map V.int) (-1) = some (.int v) := by
  have hn : ns.length - 1 < ns.length := by omega
  refine ⟨ns[ns.length - 1], ?_⟩
  have e : ixN (ns.map V.int).length (-1) = some (ns.length - 1) := by
    unfold ixN
    rw [if_neg (by decide), List.length_map]
    rw [if_pos (by omega)]
    exact congrArg some (by omega)
  show (ixN (ns.map V.int).length (-1)).bind (fun j => (ns.map V.int)[j]?) = _
  rw [e]
  show (ns.map V.int)[ns.length - 1]? = _
  rw [List.getElem?_map, List.getElem?_eq_getElem hn]
  rfl
abbrev sReader : Stmt := topS 8
theorem scReader : FnScope ["script", "row", "seed"] ["script"] (defScope sReader) := ⟨rfl, rfl, rfl, by decide +kernel, rfl, by decide +kernel, by decide +kernel⟩
def spReader (K : PySem.W.Frag) : Sp := fun vs H Q _ => ∃ (a : Addr) (ns : List Int), vs = [.ref a] ∧ SqL K H a (ns.map V.int) ∧ ns.length ≤ 63 ∧ ∀ (p r : Addr) (H' : Hp), H p = none → Same H H' → DrawsAt H' p r → Q (.ref p) H'
theorem c_reader {f : Addr} {fd : FuncData} (T : TxtD mg) (c_law_draws : C8.Cal P w K mg base 1 "_law_draws" (spDraws K) []) (F : Fun K "_law_reader" "_law_reader" sReader f fd) (b : Binds K fd ["script"] []) (hm : mg "_law_reader" = some (.ref f)) : C8.Cal P w K mg base 2 "_law_reader" (spReader K) [] := by
  refine cal_of F hm b scReader (fun vs H Q E h => ?_) (fun cdv A outer s H vs Q E hr h => ?_)
  · obtain ⟨a, ns, rfl, _⟩ := h
    rfl
  obtain ⟨a, ns, rfl, hS, h63, q⟩ := h
  refine ⟨_, (pss_cons (ps_set (i := 1) scReader.nd rfl (Or.inl rfl) (C8.pe_c c_law_draws hr (by decide) rfl (pa_cons (pv 0) pa_nil)))
    (pss_cons (ps_set (i := 2) scReader.nd rfl (Or.inl rfl) pe_int)
    (pss_cons (ps_if (pt_cmpR op_gt (pe_callB call_len_seq rfl T.zlen PySem.boot_len (pa_cons (pv 0) pa_nil)) pe_int (nomark _))
      (pss_one (ps_set (i := 2) scReader.nd rfl (Or.inl rfl) (pe_op op_mod (pe_callB call_abs rfl T.zabs boot_abs (pa_cons (pe_ix ix_list (pv 0) (pe_un un_neg pe_int) (fun _ _ => rfl)) pa_nil)) pe_int)))
      pss_nil)
    (pss_one (ps_ret (pe_disp (pps_cons pe_str (pv 1) (pps_cons pe_str pe_int (pps_cons pe_str (pv 2) pps_nil))) rfl rfl (by decide) (by decide))))))), ?_⟩
  refine ⟨_, rfl, a, ns, rfl, hS, h63, fun r row H2 hr0 s2 hl hrow => ?_⟩
  have fin : ∀ (z : Int) (p : Addr), H2 p = none → Q (.ref p) (upd (upd H2 p (.dK [])) p (.dK (mergeK [] [(Sum.inr "row", .ref r), (Sum.inr "at", .int 0), (Sum.inr "seed", .int z)]))) := fun z p hp => by
    have np : r ≠ p := ne_of_none hrow hp
    refine q p r _ (s2.free hp) (same_upd (s2.free hp) (same_upd (s2.free hp) s2 _) _) ⟨row, 0, z, ?_, by rw [upd_ne np, upd_ne np]; exact hrow⟩
    rw [upd_same, dk_merge]
    rfl
  refine ⟨_, rfl, a, _, rfl, .inl (s2.seq hS), _, _, rfl, rfl, _, rfl, ?_⟩
  refine ite2 (fun c => ?_) (fun c => ?_)
  · have c' : (0 : Int) < (((ns.map V.int).length : Nat) : Int) := of_decide_eq_true c
    rw [List.length_map] at c'
    obtain ⟨v, hv⟩ := at_last (ns := ns) c'
    refine ⟨_, rfl, _, rfl, a, _, _, _, rfl, rfl, s2.seq hS, hv, _, rfl, _, _, rfl, rfl, (show (0 : Int) < 1000003 by decide), ?_⟩
    intro p hp
    have np : r ≠ p := ne_of_none hrow hp
    refine ⟨_, rfl, _, rfl, upd_same, [(Sum.inr "row", V.ref r), (Sum.inr "at", V.int 0), (Sum.inr "seed", V.int _)], rfl, (by show 3 ≤ 15; decide), ?_⟩
    exact fin _ p hp
  · intro p hp
    have np : r ≠ p := ne_of_none hrow hp
    refine ⟨_, rfl, _, rfl, upd_same, [(Sum.inr "row", V.ref r), (Sum.inr "at", V.int 0), (Sum.inr "seed", V.int _)], rfl, (by show 3 ≤ 15; decide), ?_⟩
    exact fin _ p hp

end
end Toy

set_option Elab.async false
set_option linter.all false
set_option maxRecDepth 100000
set_option maxHeartbeats 4000000
/-! Part X: own rules: l.extend(tuple). -/
namespace Toy
open PySem PySem.Spec PyProof.Rows L2
/-- list.extend of a tuple, whatever stands beside its items -/
theorem extend_tupW (l : Addr) (items : Array Value) (n : Nat) (b : Addr) (items2 : Array Value) (n2 : Nat) (dd2 : Option Addr) (sl2 : Array (Option Value)) (hs0 : ¬(!items.isEmpty && Builtin.List.listTooLong (items.size + items2.size)) = true) (hs1 : items.size ≤ sizeLine) (hs2 : items.size + items2.size ≤ sizeLine + 1) :
    Meets (Builtin.«list.extend» ⟨[.ref l, .ref b], []⟩) (fun _ R s => s.heap.get? l = some { cls := .type "list", dict := none, data := .seq items n, slots := #[] } ∧ s.heap.get? b = some { cls := .type "tuple", dict := dd2, data := .seq items2 n2, slots := sl2 } ∧ R (.ok (.ret Value.none)) { s with heap := s.heap.update l (Obj.mapSeq fun x => x ++ items2), toks := s.toks }) :=
  .of_wp fun prog w A R s h => by
    obtain ⟨hp, g, d, tk, os⟩ := s
    obtain ⟨hl, hb, h⟩ := h
    have f1 := AutoSeq1.idx_int
    have f2 := AutoSeq1.sub_tuple_tuple
    have f3 := AutoSeq1.sub_list_list
    have f4 := AutoSeq1.sub_tuple_list
    have f5 := AutoSeq1.sub_list_tuple
    have hz' : (items ++ items2).size ≤ sizeLine + 1 := by rw [Array.size_append]; exact hs2
    wp_walk using (wpAny_updateSeq hl rfl (hz := hs1) (_hz' := hz')), AutoSeq1.wpAny_loadPart' hl, AutoSeq1.wpAny_loadPart' hb
    exact ⟨_, rfl, h⟩
def rExtendT (K : PySem.W.Frag) : V → List V → Hp → VK → Prop := fun x vs H Q => ∃ l b xs zs, x = .ref l ∧ vs = [.ref b] ∧ H l = some (.lst xs) ∧ SqT K H b zs ∧ xs.length + zs.length ≤ sizeLine ∧ Q .non (upd H l (.lst (xs ++ zs)))
theorem mt_extendT {X : Cx} : MtM X "list.extend" (rExtendT X.K) := by
  intro pins s σ H x vs v us Q I rx rv h
  obtain ⟨l, b, xs, zs, rfl, rfl, hH, hB, hz, q⟩ := h
  cases rx
  obtain ⟨u, rfl, ru⟩ := rv.one
  cases ru
  obtain ⟨z, its, n, r, hl, e⟩ := I.lstM hH
  obtain ⟨its2, r2, ht2, hz2⟩ := I.tuple hB
  obtain ⟨⟨cls2, dd2, data2, sl2⟩, ho2, hc2, n2, hd2⟩ := id ht2
  simp only at hc2 hd2
  subst hc2 hd2
  have l1 := r.length
  have l2 := r2.length
  have hsz : its.toArray.size + its2.toArray.size ≤ sizeLine := by rw [List.size_toArray, List.size_toArray]; omega
  have hlong : ¬ (!its.toArray.isEmpty && Builtin.List.listTooLong (its.toArray.size + its2.toArray.size)) = true := by
    rw [notLongL hsz, Bool.and_false]
    exact Bool.false_ne_true
  refine call_meets PySem.F.slot_list_extend ⟨_, e, rfl⟩ PySem.F.entry_list_extend (PySem.F.args_list_extend_2 _ _)
    (extend_tupW l its.toArray n b its2.toArray n2 dd2 sl2 hlong (by rw [List.size_toArray]; omega) (by omega)) ⟨e, ho2, ?_⟩
  refine ⟨.non, _, I.lset (its' := its ++ its2) hH e (by simp) (r.append r2) ?_, rfl, q⟩
  rw [List.length_append]
  omega

/-! ### t[::-1], t a tuple -/
section
variable {prog : Program} {w : World} {A : Around} {E : Value → Shared → Prop} {s : Shared}
theorem rev_adjust (n : Nat) : Builtin.Slice.sliceAdjust none none (-1) (n : Int) = ((n : Int) - 1, -1) := by
  first
    | rfl
    | simp [Builtin.Slice.sliceAdjust]
theorem rev_places (n : Nat) : Builtin.Slice.slicePlaces ((n : Int) - 1) (-1) (-1) = n := by
  unfold Builtin.Slice.slicePlaces
  by_cases h : n = 0
  · subst h
    decide
  · simp
    omega
theorem sliceApplied_rev {sl : Addr} {tk : Tok} {n : Nat} {Q : Int × Int × Nat → Shared → Prop} (hs : s.heap.IsSliceOf sl .none .none (.int (-1) tk))
    (h : Q ((n : Int) - 1, -1, n) s) : wpAny (model prog w) A (Builtin.Slice.sliceApplied (.ref sl) (pure (n : Int))) Q E s := by
  obtain ⟨os, hos, hcs, hds⟩ := id hs
  unfold Builtin.Slice.sliceApplied Builtin.Slice.sliceFields
  refine wpAny_bind (wpAny_bind (wpAny_field hos hds (x := .none) rfl (wpAny_bind (wpAny_field hos hds (x := .none) rfl (wpAny_bind (wpAny_field hos hds (x := .int (-1) tk) rfl (wpAny_pure ?_)))))))
  refine wpAny_bind (HT.slicePart_ (.int (-1) tk) ?_)
  show wpAny _ _ (if ((-1 : Int) == 0) = true then _ else _) _ _ s
  rw [if_neg (by decide)]
  refine wpAny_bind (HT.slicePart_ .none (wpAny_bind (HT.slicePart_ .none (wpAny_bind (wpAny_pure ?_)))))
  show wpAny _ _ (match Builtin.Slice.sliceAdjust none none (-1) (n : Int) with | (lo, hi) => pure (lo, (-1 : Int), Builtin.Slice.slicePlaces lo hi (-1))) _ _ s
  rw [rev_adjust n]
  show wpAny _ _ (pure ((n : Int) - 1, (-1 : Int), Builtin.Slice.slicePlaces ((n : Int) - 1) (-1) (-1))) _ _ s
  rw [rev_places]
  exact wpAny_pure h
theorem fm_congr {α β : Type} {f g : α → Option β} : ∀ {l : List α}, (∀ x ∈ l, f x = g x) → l.filterMap f = l.filterMap g
  | [], _ => rfl
  | a :: l, h => by
    rw [List.filterMap_cons, List.filterMap_cons, h a (List.mem_cons_self ..), fm_congr fun x hx => h x (List.mem_cons_of_mem _ hx)]
theorem pick_rev (xs : Array Value) : ((List.range xs.size).filterMap fun (m : Nat) => xs[((xs.size : Int) - 1 + (m : Int) * -1).toNat]?).toArray = xs.toList.reverse.toArray := by
  congr 1
  have e1 : ((List.range xs.size).filterMap fun (m : Nat) => xs[((xs.size : Int) - 1 + (m : Int) * -1).toNat]?) = ((List.range xs.size).map fun k => xs.size - 1 - k).filterMap (xs[·]?) := by
    rw [List.filterMap_map]
    refine fm_congr fun m hm => ?_
    have hm' := List.mem_range.mp hm
    show xs[((xs.size : Int) - 1 + (m : Int) * -1).toNat]? = xs[xs.size - 1 - m]?
    rw [show ((xs.size : Int) - 1 + (m : Int) * -1).toNat = xs.size - 1 - m by omega]
  rw [e1, PySem.W.krv_range, List.filterMap_reverse, PySem.W.krv_all]
theorem getItem_tuple_rev {t sl : Addr} {items : Array Value} {tk : Tok} {Q : Value → Shared → Prop} (ht : IsTup s.heap t items) (hs : s.heap.IsSliceOf sl .none .none (.int (-1) tk))
    (h : Q (.ref s.heap.objs.size) { s with heap := s.heap.push { cls := .type "tuple", data := .seq items.toList.reverse.toArray } }) (hsz : items.size ≤ sizeLine) : wpAny (model prog w) A (getItem (.ref t) (.ref sl)) Q E s := by
  have htake : sizeOk (.seq items.toList.reverse.toArray) := by
    show items.toList.reverse.toArray.size ≤ sizeLine
    rw [List.size_toArray, List.length_reverse, Array.length_toList]
    exact hsz
  obtain ⟨os, hos, hcs, hds⟩ := id hs
  have hTs : s.TypeIs (.ref sl) "slice" := ⟨os, hos, hcs⟩
  unfold getItem
  try with_reducible refine wpAny_holding ?_
  first | refine wpAny_bind (wpAny_pure ?_) | skip
  refine wpAny_bind (wpAny_sequenceKey ht.typeIs (by decide) ?_)
  refine wpAny_bind (wpAny_callSpecial?_slot (name := Str.ofString "__getitem__") ht.typeIs PyProof.Rows.slot_tuple_getitem
    (wpAny_call_entry PyProof.Rows.slot_tuple_getitem ht.typeIs entry_tuple_getitem ?_ (args_tuple_getitem _ _)))
  show wpAny _ _ (Builtin.Tuple.tupleItemsOf (.ref t) >>= _) _ _ s
  refine wpAny_bind (tupleItemsOf_ ht ?_)
  refine wpAny_bind (wpAny_typeOf hTs ?_)
  rw [if_pos (by decide)]
  refine wpAny_bind (sliceApplied_rev hs ?_)
  have hno : ¬ ((((items.size : Int) - 1) == 0 && (-1 : Int) == 1 && items.size == items.size) = true) := by
    intro q
    rw [Bool.and_eq_true, Bool.and_eq_true] at q
    exact absurd q.1.2 (by decide)
  show wpAny _ _ (if (((items.size : Int) - 1) == 0 && (-1 : Int) == 1 && items.size == items.size) = true then _ else _) _ _ s
  rw [if_neg hno, pick_rev]
  first
    | exact wpAny_bind (m := Builtin.Tuple.tupleExact _) (wpAny_newObj_type (wpAny_pure ⟨_, rfl, wpAny_pure h⟩) htake)
    | exact wpAny_bind (m := Builtin.Tuple.tupleExact _) (wpAny_newObj_type (wpAny_bind (wpAny_pure (wpAny_pure ⟨_, rfl, wpAny_pure h⟩))) htake)
    | exact wpAny_bind (wpAny_bind (m := Builtin.Tuple.tupleExact _) (wpAny_newObj_type (wpAny_pure (wpAny_pure ⟨_, rfl, wpAny_pure h⟩)) htake))
    | exact wpAny_bind (wpAny_bind (m := Builtin.Tuple.tupleExact _) (wpAny_newObj_type (wpAny_pure ⟨_, rfl, wpAny_pure h⟩) htake))
end
section
variable {X : Cx} {e st : Expr} {te ts : TE} {p2 pos : Pos}
/-- t[::st], where st is -1 and t a tuple -/
def tRev (K : PySem.W.Frag) (te ts : TE) : TE := fun σ H Q => te σ H fun x H1 => ts σ H1 fun k H2 => k = .int (-1) ∧ ∃ a xs, x = .ref a ∧ SqT K H2 a xs ∧ ∀ p, H2 p = none → Q (.ref p) (upd H2 p (.tup xs.reverse))
theorem pe_rev {ops : Addr → Addr → List Value} (he : PE X e te) (hst : PE X st ts) (hops : ∀ a b : Addr, subscripted (.Slice none none (some st) p2) false (.ref a) (.ref b) = operate (ops a b) (getItem (.ref a) (.ref b))) : PE X (.Subscript e (.Slice none none (some st) p2) pos) (tRev X.K te ts) := by
  refine ⟨fun pins s σ H Q I h => ?_⟩
  refine Subscript_ (thn (he.run pins s σ H _ I h) fun v s1 ⟨x, H1, I1, r1, q1⟩ => ?_)
  refine wpAny_Slice ?_
  rw [evalPart_none]
  refine wpAny_pure ?_
  refine wpAny_pure ?_
  rw [evalPart_some]
  refine thn (hst.run pins s1 σ H1 _ I1 q1) fun vk s3 ⟨k, H3, I3, rk, ek, a, xs, ex, hx, q⟩ => ?_
  subst ek ex
  obtain ⟨tk, rfl⟩ := rk
  cases r1
  have I4 : Inv X pins σ H3 { s3 with heap := s3.heap.push { cls := .type "slice", data := .fields #[.none, .none, .int (-1) tk] } } := I3.kept (t' := s3.toks) fun b ob q => Heap.get?_push_of_some _ q
  obtain ⟨its, r, ht, hz⟩ := I4.tuple hx
  have hlen : its.toArray.size = xs.length := by rw [List.size_toArray]; exact r.length.symm
  show wpAny (model X.prog X.w) X.A (subscriptTail e (.Slice none none (some st) p2) (.ref a) (.ref s3.heap.objs.size)) (EP X pins σ Q) X.xe { s3 with heap := s3.heap.push { cls := .type "slice", data := .fields #[.none, .none, .int (-1) tk] } }
  refine tail_any (ops := ops a s3.heap.objs.size) ht.typeIs PyProof.Rows.slot_tuple_getitem.lookup (getItem_tuple_rev ht (Heap.IsSliceOf.new ..) ?_ (by rw [hlen]; exact hz)) (hops _ _)
  refine ⟨.ref _, _, I4.laid (t' := s3.toks) (o := .tup xs.reverse) (fun b ob q => Heap.get?_push_of_some _ q) (Nat.le_refl _) ?_, rfl, q _ (I4.hok.fresh (Nat.le_refl _))⟩
  exact ⟨by rw [List.length_reverse]; exact hz, _, r.reverse, IsTup.new _ _⟩
end
example {X : Cx} {e : Expr} {te : TE} {p1 p2 p3 p4 : Pos} (he : PE X e te) : ∃ t, PE X (.Subscript e (.Slice none none (some (.UnaryOp .USub (.Constant (.int 1) 0 p1) p2)) p3) p4) t := ⟨_, pe_rev he (pe_un un_neg pe_int) (fun _ _ => by with_unfolding_all rfl)⟩

/-! ### tuple(d), d a dict: its keys -/
section
variable {X : Cx}
theorem call_tupleD (hcalm : X.calm = true) : CallR X (.type "tuple") (fun xs H Q => ∃ (a : Addr) (kvs : List (Key × V)), xs = [.ref a] ∧ Rd H a (.dK kvs) ∧ ∀ p, H p = none → Q (.ref p) (upd H p (.tup (kvs.map fun kv => kV kv.1)))) := by
  intro pins s σ H xs us Q I r q
  obtain ⟨a, kvs, ex, hd, q⟩ := q
  subst ex
  obtain ⟨u, eu, rx⟩ := vals1 r
  subst eu
  cases rx
  obtain ⟨z, lo, vs, rel, dd⟩ := dk_rd I.hok hd
  obtain ⟨ep, hat⟩ := dd.dictAt
  have ek : (kvs.map fun kv => kV kv.1) = vs.map fun p => kV p.1 := by
    have e := congrArg (List.map kV) rel.keys
    rw [List.map_map, List.map_map] at e
    exact e
  have hn : vs.length ≤ sizeLine := by rw [← rel.length]; exact z
  have hTI : s.TypeIs (.ref a) "dict" := by
    obtain ⟨o, es, ho, hex, _⟩ := id hat
    exact ⟨o, ho, hex.1⟩
  refine callType_codes (Q₁ := fun obj s₁ => s₁.TypeIs obj "tuple" ∧ EP X pins σ Q obj s₁) PySem.F.called_tuple (PySem.F.typeCall_tuple_1 _) PySem.F.entry_object_init ?_ fun obj s₁ h₁ => ?_
  · refine codeAny_of_tree ?_
    show wpAny _ X.A.in1.in1 (do checkBuiltinCall "tuple.__new__" ⟨[.type "tuple", .ref a], []⟩; again (.builtin "tuple.__new__" ⟨[.type "tuple", .ref a], []⟩)) _ _ s
    refine wpAny_bind (wpAny_of_eq (PySem.F.newCall_tuple_1 _) (wpAny_pure ⟨plainId_quiet PySem.F.plain_tuple_new _, codeAny_builtin PySem.F.entry_tuple_new ?_⟩))
    rw [Around.under_plainId PySem.F.plain_tuple_new _]
    have hsub := sub_tuple_self
    have hinit := init_tuple_lookup
    have hmh := madeHere_tuple
    wp_walk using wpAny_typeOf hTI, (PySem.W.kdu_collect (PySem.W.kdl_dict (knd := mixKind X.prog X.w) (kvs := vs) (ep := ep) lo) (show X.A.in1.in1.handled = none from I.ok.hd hcalm) hat hn)
    intro h' tk acc hk hacc
    show wpAny _ _ (Builtin.Tuple.tupleExact acc.toList.toArray >>= fun v => ret v) _ _ _
    have hz : acc.toList.length ≤ sizeLine := by rw [Array.length_toList, hacc.1]; exact hn
    have hv : Vals (vs.map fun p => kV p.1) acc.toList := keys_at (by rw [Array.length_toList]; exact hacc.1) fun j v e => hacc.2 j v (by rw [← Array.getElem?_toList]; exact e)
    have I1 : Inv X pins σ H { s with heap := h', toks := tk } := I.kept (t' := tk) hk
    unfold Builtin.Tuple.tupleExact
    refine wpAny_bind (wpAny_newObj_type ?_ (by show acc.toList.toArray.size ≤ sizeLine; rw [List.size_toArray]; exact hz))
    refine wpAny_pure ⟨⟨_, Heap.get?_push_size _ rfl, rfl⟩, ?_⟩
    refine ⟨.ref h'.objs.size, upd H h'.objs.size (.tup (kvs.map fun kv => kV kv.1)), I1.laid (t' := tk) (fun b o e => Heap.get?_push_of_some _ e) (Nat.le_refl _) (show ObjOk X.prog X.w _ _ _ (.tup (kvs.map fun kv => kV kv.1)) from ⟨by rw [ek, List.length_map]; exact hn, acc.toList, by rw [ek]; exact hv, IsTup.new _ _⟩), rfl, q _ (I1.hok.fresh (Nat.le_refl _))⟩
  · exact ⟨h₁.1, PySem.F.args_object_init_2 obj _, object_init_meets PySem.F.called_tuple.init.lookup PySem.F.called_tuple.made (by decide) X.prog X.w X.A.in1 _ s₁ ⟨h₁.1, rfl, h₁.2⟩⟩
end
end Toy

set_option Elab.async false
set_option linter.all false
set_option maxRecDepth 100000
set_option maxHeartbeats 4000000
/-! Part Z: own rule: list(zip(t, u)) of two tuples. -/
namespace Toy
open PySem PySem.Spec PyProof.Rows L2
theorem zip_lenless : typeLookup (.type "zip") "__len__" = pure none := am_miss_of_fast (by first | decide +kernel | rfl)
theorem zip_hintless : typeLookup (.type "zip") "__length_hint__" = pure none := am_miss_of_fast (by first | decide +kernel | rfl)
section
variable {prog : Program} {w : World} {A : Around} {E : Value → Shared → Prop} {s : Shared}
/-- next, while the pair given out before is there -/
theorem zt_held_item {zz ti to tt i1 i2 ta tb : Addr} {fl : Bool} {ob : Obj} {m : Nat} {us vs : Array Value} {u v : Value} {Q : Value → Shared → Prop} (D : ZipApart zz ti to i1 i2 ta tb)
    (hz : IsZipHeld s.heap zz ti to tt fl) (ht : s.heap.get? tt = some ob) (hp : IsPair s.heap ti (.ref i1) (.ref i2))
    (j1 : s.heap.IsTupleIter i1 ta m) (j2 : s.heap.IsTupleIter i2 tb m) (k1 : s.heap.IsTuple ta us) (k2 : s.heap.IsTuple tb vs) (hu : us[m]? = some u) (hv : vs[m]? = some v)
    (next : ∀ g, IsZipHeld g zz ti to tt true → g.IsTupleIter i1 ta (m + 1) → g.IsTupleIter i2 tb (m + 1) → IsPair g s.heap.objs.size u v → g.objs.size = s.heap.objs.size + 1 →
      (∀ c o, c ≠ zz → c ≠ i1 → c ≠ i2 → s.heap.get? c = some o → g.get? c = some o) → Q (.ref s.heap.objs.size) { s with heap := g }) :
    wpAny (model prog w) A (Builtin.«zip.__next__» ⟨[.ref zz], []⟩) (fun fin s' => ∃ r, fin = .done (.ret r) ∧ Q r s') E s := by
  show wpAny _ _ (field (.ref zz) 2 >>= _) _ _ _
  refine wpAny_bind (wpAny_field hz rfl (x := .bool false) rfl ?_)
  show wpAny _ _ (field (.ref zz) 3 >>= _) _ _ _
  refine wpAny_bind (wpAny_field hz rfl (x := .ref ti) rfl ?_)
  refine wpAny_bind (wpAny_seqItems hp rfl ?_)
  show wpAny _ _ (Builtin.SmallTypes.ownedTupleIsFree (.ref zz) >>= _) _ _ _
  refine wpAny_bind (wpAny_tupleHeld_zip hz ht fun g1 z1 b1 => ?_)
  simp only [Bool.false_eq_true, if_false]
  refine wpAny_bind ?_
  rw [← Array.forIn_toList]
  simp only [List.forIn_cons, List.forIn_nil]
  refine wpAny_bind (wpAny_bind (wpAny_holding ?_))
  show wpAny _ _ (Builtin.SmallTypes.nextOf (.ref i1) >>= _) _ _ _
  refine wpAny_bind (RZ.nextOf_tuple_item (s := { s with heap := g1 }) (j1.extBut b1.extBut D.i1z) (k1.extBut b1.extBut D.l1z) hu fun g2 y1 b2 => wpAny_pure (wpAny_pure ?_))
  refine wpAny_bind (wpAny_bind (wpAny_holding ?_))
  show wpAny _ _ (Builtin.SmallTypes.nextOf (.ref i2) >>= _) _ _ _
  refine wpAny_bind (RZ.nextOf_tuple_item (s := { s with heap := g2 }) ((j2.extBut b1.extBut D.i2z).extBut b2.extBut D.i12.symm) ((k2.extBut b1.extBut D.l2z).extBut b2.extBut D.l2i1) hv fun g3 y2 b3 => wpAny_pure (wpAny_pure (wpAny_pure ?_)))
  show wpAny _ _ (newTuple [u, v] >>= _) _ _ _
  refine wpAny_bind (wpAny_newTuple ?_)
  have sz : g3.objs.size = s.heap.objs.size := by rw [b3.1, b2.1, b1.1]
  have z3 : IsZipHeld g3 zz ti to tt true := b3.extBut _ _ D.i2z.symm (b2.extBut _ _ D.i1z.symm z1)
  have kp : ∀ c o, c ≠ zz → c ≠ i1 → c ≠ i2 → s.heap.get? c = some o → g3.get? c = some o := fun c o n1 n2 n3 q => b3.extBut _ _ n3 (b2.extBut _ _ n2 (b1.extBut _ _ n1 q))
  refine wpAny_pure ⟨_, rfl, ?_⟩
  show Q (.ref g3.objs.size) _
  have new : IsPair (g3.push { cls := .type "tuple", data := .seq #[u, v] }) g3.objs.size u v := Heap.get?_push_size _ rfl
  have s4 : (g3.push { cls := .type "tuple", data := .seq #[u, v] }).objs.size = g3.objs.size + 1 := Heap.size_push ..
  rw [sz] at new s4 ⊢
  exact next _ (Heap.get?_push_of_some _ z3) ((y1.extBut b3.extBut D.i12).at fun o q => Heap.get?_push_of_some _ q) (y2.at fun o q => Heap.get?_push_of_some _ q) new s4 fun c o n1 n2 n3 q => Heap.get?_push_of_some _ (kp c o n1 n2 n3 q)
theorem zt_held_end {zz ti to tt i1 i2 ta tb : Addr} {fl : Bool} {ob : Obj} {m : Nat} {us vs : Array Value} {Q : Fin → Shared → Prop} (hh : A.handled = none) (D : ZipApart zz ti to i1 i2 ta tb)
    (hz : IsZipHeld s.heap zz ti to tt fl) (ht : s.heap.get? tt = some ob) (hp : IsPair s.heap ti (.ref i1) (.ref i2))
    (j1 : s.heap.IsTupleIter i1 ta m) (j2 : s.heap.IsTupleIter i2 tb m) (k1 : s.heap.IsTuple ta us) (k2 : s.heap.IsTuple tb vs) (fin : us[m]? = none ∨ vs[m]? = none)
    (stop : ∀ g e, (∀ c o, c ≠ zz → c ≠ i1 → c ≠ i2 → s.heap.get? c = some o → g.get? c = some o) → (∃ o, g.get? e = some o ∧ o.cls = .type "StopIteration") → E (.ref e) { s with heap := g }) :
    wpAny (model prog w) A (Builtin.«zip.__next__» ⟨[.ref zz], []⟩) Q E s := by
  show wpAny _ _ (field (.ref zz) 2 >>= _) _ _ _
  refine wpAny_bind (wpAny_field hz rfl (x := .bool false) rfl ?_)
  show wpAny _ _ (field (.ref zz) 3 >>= _) _ _ _
  refine wpAny_bind (wpAny_field hz rfl (x := .ref ti) rfl ?_)
  refine wpAny_bind (wpAny_seqItems hp rfl ?_)
  show wpAny _ _ (Builtin.SmallTypes.ownedTupleIsFree (.ref zz) >>= _) _ _ _
  refine wpAny_bind (wpAny_tupleHeld_zip hz ht fun g1 z1 b1 => ?_)
  simp only [Bool.false_eq_true, if_false]
  refine wpAny_bind ?_
  rw [← Array.forIn_toList]
  simp only [List.forIn_cons, List.forIn_nil]
  refine wpAny_bind (wpAny_bind (wpAny_holding ?_))
  show wpAny _ _ (Builtin.SmallTypes.nextOf (.ref i1) >>= _) _ _ _
  have fits : A.handled = none := hh
  cases hu : us[m]? with
  | none =>
    refine wpAny_bind (RZ.nextOf_tuple_end (s := { s with heap := g1 }) hh (j1.extBut b1.extBut D.i1z) (k1.extBut b1.extBut D.l1z) hu fun g2 e b2 he => ?_)
    exact stop g2 e (fun c o n1 n2 _ q => b2 _ _ n2 (b1.extBut _ _ n1 q)) he
  | some u =>
    have hv : vs[m]? = none := by
      rcases fin with q | q
      · rw [hu] at q; cases q
      · exact q
    refine wpAny_bind (RZ.nextOf_tuple_item (s := { s with heap := g1 }) (j1.extBut b1.extBut D.i1z) (k1.extBut b1.extBut D.l1z) hu fun g2 y1 b2 => wpAny_pure (wpAny_pure ?_))
    refine wpAny_bind (wpAny_bind (wpAny_holding ?_))
    show wpAny _ _ (Builtin.SmallTypes.nextOf (.ref i2) >>= _) _ _ _
    refine wpAny_bind (RZ.nextOf_tuple_end (s := { s with heap := g2 }) hh ((j2.extBut b1.extBut D.i2z).extBut b2.extBut D.i12.symm) ((k2.extBut b1.extBut D.l2z).extBut b2.extBut D.l2i1) hv fun g3 e b3 he => ?_)
    exact stop g3 e (fun c o n1 n2 n3 q => b3 _ _ n3 (b2.extBut _ _ n2 (b1.extBut _ _ n1 q))) he
/-- a zip of two tuples before its turn m; the pair given out last is alive -/
structure ZtAt (h : Heap) (zz ti to i1 i2 ta tb : Addr) (m : Nat) : Prop where
  pair : IsPair h ti (.ref i1) (.ref i2)
  it1 : h.IsTupleIter i1 ta m
  it2 : h.IsTupleIter i2 tb m
  out : (IsZip h zz ti to .none ∧ ∃ a b, IsPair h to a b) ∨ ∃ tt fl o, IsZipHeld h zz ti to tt fl ∧ h.get? tt = some o ∧ tt ≠ zz ∧ tt ≠ to ∧ tt ≠ i1 ∧ tt ≠ i2
theorem ZtAt.type {zz ti to i1 i2 ta tb : Addr} {m : Nat} {s : Shared} (z : ZtAt s.heap zz ti to i1 i2 ta tb m) : s.TypeIs (.ref zz) "zip" := by
  rcases z.out with ⟨q, _⟩ | ⟨_, _, _, q, _⟩
  · exact ⟨_, q, rfl⟩
  · exact ⟨_, q, rfl⟩
theorem ZtAt.keep {h g : Heap} {zz ti to i1 i2 ta tb S : Addr} {m : Nat} (z : ZtAt h zz ti to i1 i2 ta tb m) (hS : ∀ c, c = zz ∨ c = ti ∨ c = to ∨ c = i1 ∨ c = i2 → c ≠ S) (nt : ∀ o, h.get? S = some o → o.cls = .type "list")
    (ha : ∀ tt o, h.get? tt = some o → ∃ o', g.get? tt = some o') (k : ∀ c o, c ≠ S → h.get? c = some o → g.get? c = some o) : ZtAt g zz ti to i1 i2 ta tb m := by
  refine ⟨k _ _ (hS _ (.inr (.inl rfl))) z.pair, z.it1.at fun o q => k _ o (hS _ (.inr (.inr (.inr (.inl rfl))))) q, z.it2.at fun o q => k _ o (hS _ (.inr (.inr (.inr (.inr rfl))))) q, ?_⟩
  rcases z.out with ⟨q, a, b, p⟩ | ⟨tt, fl, o, q, e, n⟩
  · exact .inl ⟨k _ _ (hS _ (.inl rfl)) q, a, b, k _ _ (hS _ (.inr (.inr (.inl rfl)))) p⟩
  · obtain ⟨o', e'⟩ := ha _ _ e
    exact .inr ⟨tt, fl, o', k _ _ (hS _ (.inl rfl)) q, e', n⟩
/-- one more pair -/
theorem zt_item {zz ti to i1 i2 ta tb : Addr} {m : Nat} {us vs : Array Value} {u v : Value} {Q : Option Value → Shared → Prop} (D : ZipApart zz ti to i1 i2 ta tb) (z : ZtAt s.heap zz ti to i1 i2 ta tb m)
    (lt : ∀ c, c = zz ∨ c = to ∨ c = i1 ∨ c = i2 → c < s.heap.objs.size) (k1 : s.heap.IsTuple ta us) (k2 : s.heap.IsTuple tb vs) (hu : us[m]? = some u) (hv : vs[m]? = some v)
    (next : ∀ g, ZtAt g zz ti to i1 i2 ta tb (m + 1) → IsPair g s.heap.objs.size u v → g.objs.size = s.heap.objs.size + 1 →
      (∀ c o, c ≠ zz → c ≠ to → c ≠ i1 → c ≠ i2 → s.heap.get? c = some o → g.get? c = some o) → Q (some (.ref s.heap.objs.size)) { s with heap := g }) :
    wpAny (model prog w) A (pyNext (.ref zz)) Q E s := by
  have nn : ∀ c, c = zz ∨ c = to ∨ c = i1 ∨ c = i2 → s.heap.objs.size ≠ c := fun c q => Nat.ne_of_gt (lt c q)
  rcases z.out with ⟨hz, a, b, ho⟩ | ⟨tt, fl, o, hz, e, n1, n2, n3, n4⟩
  · exact RZ.pyNext_zipT_item D hz z.pair ho z.it1 z.it2 k1 k2 hu hv fun g c1 c2 c3 c4 c5 c6 c7 =>
      next g ⟨c7 _ _ D.TIz D.TITO D.TIi1 D.TIi2 z.pair, c3, c4, .inr ⟨_, false, _, c1, c5, nn _ (.inl rfl), nn _ (.inr (.inl rfl)), nn _ (.inr (.inr (.inl rfl))), nn _ (.inr (.inr (.inr rfl)))⟩⟩ c5 c6 c7
  · have hT : s.TypeIs (.ref zz) "zip" := ⟨_, hz, rfl⟩
    unfold pyNext
    refine wpAny_bind (wpAny_attempt (wpAny_callSpecial?_slot (name := Str.ofString "__next__") hT F.slot_zip_next (wpAny_call_entry F.slot_zip_next hT F.entry_zip_next ?_ (F.args_zip_next_1 _))))
    refine zt_held_item D hz e z.pair z.it1 z.it2 k1 k2 hu hv fun g c1 c2 c3 c4 c5 c6 => wpAny_pure ?_
    exact next g ⟨c6 _ _ D.TIz D.TIi1 D.TIi2 z.pair, c2, c3, .inr ⟨tt, true, o, c1, c6 _ _ n1 n3 n4 e, n1, n2, n3, n4⟩⟩ c4 c5 fun c o m1 _ m2 m3 q => c6 c o m1 m2 m3 q
theorem zt_end {zz ti to i1 i2 ta tb : Addr} {m : Nat} {us vs : Array Value} {Q : Option Value → Shared → Prop} (hh : A.handled = none) (D : ZipApart zz ti to i1 i2 ta tb) (z : ZtAt s.heap zz ti to i1 i2 ta tb m)
    (k1 : s.heap.IsTuple ta us) (k2 : s.heap.IsTuple tb vs) (fin : us[m]? = none ∨ vs[m]? = none)
    (next : ∀ g, (∀ c o, c ≠ zz → c ≠ to → c ≠ i1 → c ≠ i2 → s.heap.get? c = some o → g.get? c = some o) → Q none { s with heap := g }) : wpAny (model prog w) A (pyNext (.ref zz)) Q E s := by
  rcases z.out with ⟨hz, a, b, ho⟩ | ⟨tt, fl, o, hz, e, n1, n2, n3, n4⟩
  · exact RZ.pyNext_zipT_end hh D hz z.pair ho z.it1 z.it2 k1 k2 fin next
  · have hT : s.TypeIs (.ref zz) "zip" := ⟨_, hz, rfl⟩
    unfold pyNext
    refine wpAny_bind (wpAny_attempt (wpAny_callSpecial?_slot (name := Str.ofString "__next__") hT F.slot_zip_next (wpAny_call_entry F.slot_zip_next hT F.entry_zip_next ?_ (F.args_zip_next_1 _))))
    refine zt_held_end hh D hz e z.pair z.it1 z.it2 k1 k2 fin fun g er kp he => ?_
    obtain ⟨oe, h1, h2⟩ := he
    refine wpAny_bind (wpAny_isInstance (T := "StopIteration") (b := true) ⟨oe, h1, h2⟩ isSubtype_stop ?_)
    exact wpAny_pure (next _ fun c o m1 _ m2 m3 q => kp c o m1 m2 m3 q)
end
end Toy

set_option Elab.async false
set_option linter.all false
set_option maxRecDepth 100000
set_option maxHeartbeats 4000000
/-! Part Y: list(zip(t, u)), the loop and the rule. -/
namespace Toy
open PySem PySem.Spec PyProof.Rows L2
/-- the addresses bs hold the first pairs, all above S -/
structure ZtG (us vs : Array Value) (S : Addr) (h : Heap) (bs : List Addr) : Prop where
  rise : bs.Pairwise (· < ·)
  above : ∀ c ∈ bs, S < c
  pairs : ∀ (j : Nat) (c : Addr), bs[j]? = some c → ∃ u v, us[j]? = some u ∧ vs[j]? = some v ∧ IsPair h c u v
theorem ZtG.lt {us vs : Array Value} {S : Addr} {h : Heap} {bs : List Addr} (z : ZtG us vs S h bs) {c : Addr} (hc : c ∈ bs) : c < h.objs.size := by
  obtain ⟨j, hj⟩ := List.mem_iff_getElem?.mp hc
  obtain ⟨_, _, _, _, e⟩ := z.pairs j c hj
  exact Heap.lt_size e
section
variable {prog : Program} {w : World} {A : Around} {s : Shared} {R : Result → Shared → Prop} {us vs : Array Value} {zz ti to i1 i2 ta tb S : Addr} {n : Nat}
theorem zt_loop (hh : A.handled = none) (D : ZipApart zz ti to i1 i2 ta tb) (low : ∀ c, c = zz ∨ c = ti ∨ c = to ∨ c = i1 ∨ c = i2 ∨ c = ta ∨ c = tb → c < S) (en : us.size = n) (en2 : vs.size = n) (hn : n ≤ sizeLine) (res : Value) {h0 : Heap}
    (hR : ∀ g tk acc c bs, (∀ b o, b ≠ S → b ≠ zz → b ≠ to → b ≠ i1 → b ≠ i2 → h0.get? b = some o → g.get? b = some o) → g.get? S = some { cls := .type "list", dict := none, data := .seq acc c, slots := #[] } → bs.length = n → ZtG us vs S g bs →
      acc.toList = bs.map Value.ref → R (.ok (.ret res)) { s with heap := g, toks := tk }) :
    ∀ (k i : Nat) (h : Heap) (tk c : Nat) (acc : Array Value) (bs : List Addr), n - i = k → i ≤ n → ZtAt h zz ti to i1 i2 ta tb i → h.IsTuple ta us → h.IsTuple tb vs →
      (∀ b o, b ≠ S → b ≠ zz → b ≠ to → b ≠ i1 → b ≠ i2 → h0.get? b = some o → h.get? b = some o) →
      h.get? S = some { cls := .type "list", dict := none, data := .seq acc c, slots := #[] } → acc.toList = bs.map Value.ref → bs.length = i → ZtG us vs S h bs →
      codeAny (model prog w) A (.builtin "list.extend.loop" ⟨[.ref S, .ref zz, res], []⟩) R { s with heap := h, toks := tk } := by
  have nS : ∀ c, c = zz ∨ c = ti ∨ c = to ∨ c = i1 ∨ c = i2 ∨ c = ta ∨ c = tb → c ≠ S := fun c q => Nat.ne_of_lt (low c q)
  have nzz := nS zz (.inl rfl)
  have nti := nS ti (.inr (.inl rfl))
  have nto := nS to (.inr (.inr (.inl rfl)))
  have n1 := nS i1 (.inr (.inr (.inr (.inl rfl))))
  have n2 := nS i2 (.inr (.inr (.inr (.inr (.inl rfl)))))
  have nta := nS ta (.inr (.inr (.inr (.inr (.inr (.inl rfl))))))
  have ntb := nS tb (.inr (.inr (.inr (.inr (.inr (.inr rfl))))))
  have far : ∀ c, S < c → c ≠ zz ∧ c ≠ to ∧ c ≠ i1 ∧ c ≠ i2 := fun c hc =>
    ⟨Nat.ne_of_gt (Nat.lt_trans (low _ (.inl rfl)) hc), Nat.ne_of_gt (Nat.lt_trans (low _ (.inr (.inr (.inl rfl)))) hc), Nat.ne_of_gt (Nat.lt_trans (low _ (.inr (.inr (.inr (.inl rfl))))) hc), Nat.ne_of_gt (Nat.lt_trans (low _ (.inr (.inr (.inr (.inr (.inl rfl)))))) hc)⟩
  intro k
  induction k with
  | zero =>
    intro i h tk c acc bs hk hi hst ka kb hkeep hS hacc hbl hG
    have e : i = n := by omega
    refine codeAny_builtin PySem.F.entry_extend_loop ?_
    rw [Around.under_plainId PySem.F.plain_extend_loop _]
    show wpAny _ A.in1 (pyNext (.ref zz) >>= _) _ _ _
    refine wpAny_bind (zt_end (s := { s with heap := h, toks := tk }) (A := A.in1) hh D hst ka kb (.inl (by rw [Array.getElem?_eq_none]; omega)) fun g kp => ?_)
    refine wpAny_pure (hR g tk acc c bs (fun b o m1 m2 m3 m4 m5 q => kp b o m2 m3 m4 m5 (hkeep b o m1 m2 m3 m4 m5 q)) (kp S _ nzz.symm nto.symm n1.symm n2.symm hS) (by omega) ⟨hG.rise, hG.above, fun j c hj => ?_⟩ hacc)
    obtain ⟨u, v, e1, e2, e3⟩ := hG.pairs j c hj
    obtain ⟨f1, f2, f3, f4⟩ := far c (hG.above c (List.mem_of_getElem? hj))
    exact ⟨u, v, e1, e2, kp c _ f1 f2 f3 f4 e3⟩
  | succ k ih =>
    intro i h tk c acc bs hk hi hst ka kb hkeep hS hacc hbl hG
    have hlt : i < n := by omega
    have hsz : acc.size = i := by rw [← Array.length_toList, hacc, List.length_map, hbl]
    have hSl : S < h.objs.size := Heap.lt_size hS
    refine codeAny_builtin PySem.F.entry_extend_loop ?_
    rw [Around.under_plainId PySem.F.plain_extend_loop _]
    show wpAny _ A.in1 (pyNext (.ref zz) >>= _) _ _ _
    have hu : us[i]? = some us[i] := Array.getElem?_eq_getElem (by omega)
    have hv : vs[i]? = some vs[i] := Array.getElem?_eq_getElem (by omega)
    refine wpAny_bind (zt_item (s := { s with heap := h, toks := tk }) (A := A.in1) D hst (fun c q => Nat.lt_trans (low c (by rcases q with q | q | q | q <;> simp [q])) hSl) ka kb hu hv fun g zg new gsz kp => ?_)
    dsimp only at new gsz kp ⊢
    have gS := kp S _ nzz.symm nto.symm n1.symm n2.symm hS
    have up : ∀ b o, b ≠ S → g.get? b = some o → (g.update S (Obj.mapSeq (·.push (Value.ref h.objs.size)))).get? b = some o := fun b o hb q => (Heap.get?_update_other _ _ (Ne.symm hb)).trans q
    have dif : ∀ c, c < S ∨ S < c → c ≠ S := fun c q => by rcases q with q | q; exact Nat.ne_of_lt q; exact Nat.ne_of_gt q
    show wpAny _ A.in1 (updateSeq S (·.push (Value.ref h.objs.size)) >>= _) _ _ _
    refine wpAny_bind ?_
    refine wpAny_updateSeq gS rfl (wpAny_pure ⟨plainId_quiet PySem.F.plain_extend_loop _, ih (i + 1) _ tk _ (acc.push (Value.ref h.objs.size)) (bs ++ [h.objs.size]) (by omega) hlt ?_ (ka.at fun o q => up ta o nta (kp ta o D.l1z D.l1TO D.l1i1 D.l1i2 q)) (kb.at fun o q => up tb o ntb (kp tb o D.l2z D.l2TO D.l2i1 D.l2i2 q))
      (fun b o m1 m2 m3 m4 m5 q => up b o m1 (kp b o m2 m3 m4 m5 (hkeep b o m1 m2 m3 m4 m5 q))) (Heap.get?_update_self _ gS rfl) (by rw [Array.toList_push, hacc, List.map_append]; rfl) (by rw [List.length_append, hbl]; rfl) ⟨?_, ?_, ?_⟩⟩) (by rw [hsz]; omega) (by show (acc.push _).size ≤ _; rw [Array.size_push, hsz]; omega)
    · refine ZtAt.keep (S := S) zg (fun c q => nS c (by rcases q with q | q | q | q | q <;> simp [q])) (fun o q => by rw [gS] at q; cases q; rfl) (fun tt o q => ?_) up
      by_cases e : tt = S
      · rw [e]; exact ⟨_, Heap.get?_update_self _ gS rfl⟩
      · exact ⟨o, up tt o e q⟩
    · refine List.pairwise_append.mpr ⟨hG.rise, List.pairwise_singleton _ _, fun a ha b hb => ?_⟩
      rw [List.mem_singleton.mp hb]
      exact hG.lt ha
    · intro a ha
      rcases List.mem_append.mp ha with q | q
      · exact hG.above a q
      · rw [List.mem_singleton.mp q]; exact hSl
    · intro j b hj
      rcases Nat.lt_trichotomy j bs.length with q | q | q
      · rw [List.getElem?_append_left q] at hj
        obtain ⟨u, v, e1, e2, e3⟩ := hG.pairs j b hj
        have hb := hG.above b (List.mem_of_getElem? hj)
        obtain ⟨f1, f2, f3, f4⟩ := far b hb
        exact ⟨u, v, e1, e2, up b _ (Nat.ne_of_gt hb) (kp b _ f1 f2 f3 f4 e3)⟩
      · subst q
        have e : h.objs.size = b := by simpa using hj
        subst e
        subst hbl
        exact ⟨_, _, hu, hv, up _ _ (Nat.ne_of_gt hSl) new⟩
      · have none : (bs ++ [h.objs.size])[j]? = none := List.getElem?_eq_none (by rw [List.length_append, List.length_singleton]; omega)
        rw [none] at hj; cases hj
theorem zt_extend (hh : A.handled = none) (D : ZipApart zz ti to i1 i2 ta tb) (low : ∀ c, c = zz ∨ c = ti ∨ c = to ∨ c = i1 ∨ c = i2 ∨ c = ta ∨ c = tb → c < S) (en : us.size = n) (en2 : vs.size = n) (hn : n ≤ sizeLine) (res : Value) (c0 : Nat)
    (hst : ZtAt s.heap zz ti to i1 i2 ta tb 0) (hz0 : IsZip s.heap zz ti to .none) (ka : s.heap.IsTuple ta us) (kb : s.heap.IsTuple tb vs) (hS : s.heap.get? S = some { cls := .type "list", data := .seq #[] c0 })
    (hR : ∀ g tk acc c bs, (∀ b o, b ≠ S → b ≠ zz → b ≠ to → b ≠ i1 → b ≠ i2 → s.heap.get? b = some o → g.get? b = some o) → g.get? S = some { cls := .type "list", dict := none, data := .seq acc c, slots := #[] } → bs.length = n → ZtG us vs S g bs →
      acc.toList = bs.map Value.ref → R (.ok (.ret res)) { s with heap := g, toks := tk }) :
    wpAny (model prog w) A.in1 (Builtin.List.listExtendWith (.ref S) (.ref zz) res)
      (fun fin s' => match fin with | .done f => R (.ok f) s' | .again c' => c'.quiet = true ∧ codeAny (model prog w) A c' R s') (fun e s' => R (.error e) s') s := by
  have hT : s.TypeIs (.ref zz) "zip" := hst.type
  have hne : S ≠ zz := Ne.symm (Nat.ne_of_lt (low zz (.inl rfl)))
  unfold Builtin.List.listExtendWith
  refine wpAny_bind (wpAny_typeOf hT ?_)
  have q1 : Builtin.List.listSameRef (.ref S) (.ref zz) = false := by simp [Builtin.List.listSameRef, hne]
  have q2 : (Value.type "zip" == Value.type "list") = false := by decide
  have q3 : (Value.type "zip" == Value.type "tuple") = false := by decide
  simp only [q1, q2, q3, Bool.or_false, Bool.false_eq_true, if_false]
  refine wpAny_bind (wpAny_pyIter_zip hz0 ?_)
  refine wpAny_bind (wpAny_holding ?_)
  unfold Builtin.List.listLengthHint
  refine wpAny_bind (wpAny_specialOf hT zip_lenless ?_)
  show wpAny _ A.in1 (specialOf (Value.ref zz) (Str.ofString "__length_hint__") >>= _) _ _ _
  refine wpAny_bind (wpAny_specialOf hT zip_hintless ?_)
  refine wpAny_pure ?_
  show wpAny _ A.in1 (rule "list.extend.makes-room" >>= fun _ => Builtin.List.listTouch (.ref S) >>= fun _ => again (.builtin "list.extend.loop" ⟨[.ref S, .ref zz, res], []⟩)) _ _ _
  refine wpAny_bind (wpAny_rule ?_)
  refine wpAny_bind ?_
  show wpAny _ A.in1 (updateSeq S (·.push .none) >>= fun _ => updateSeq S (·.pop)) _ _ _
  refine wpAny_bind (wpAny_updateSeq hS rfl ?_)
  have hS2 := Heap.get?_update_self (Obj.mapSeq (·.push Value.none)) hS rfl
  refine wpAny_updateSeq (hz := by seq_fits) hS2 rfl ?_
  have hS3 := Heap.get?_update_self (Obj.mapSeq (·.pop)) hS2 rfl
  have off : ∀ b o, b ≠ S → s.heap.get? b = some o → ((s.heap.update S (Obj.mapSeq (·.push Value.none))).update S (Obj.mapSeq (·.pop))).get? b = some o :=
    fun b o hb q => (Heap.get?_update_other _ _ (Ne.symm hb)).trans ((Heap.get?_update_other _ _ (Ne.symm hb)).trans q)
  refine wpAny_pure ⟨plainId_quiet PySem.F.plain_extend_loop _, zt_loop (s := s) (h0 := s.heap) hh D low en en2 hn res hR n 0 _ _ _ #[] [] (Nat.sub_zero _) (Nat.zero_le _) ?_ (ka.at fun o q => off ta o (Nat.ne_of_lt (low ta (by simp))) q) (kb.at fun o q => off tb o (Nat.ne_of_lt (low tb (by simp))) q)
    (fun b o m1 _ _ _ _ q => off b o m1 q) hS3 rfl rfl ⟨List.Pairwise.nil, (fun _ q => nomatch q), (fun j a hj => by simp at hj)⟩⟩
  refine ZtAt.keep (S := S) hst (fun c q => Nat.ne_of_lt (low c (by rcases q with q | q | q | q | q <;> simp [q]))) (fun o q => by rw [hS] at q; cases q; rfl) (fun tt o q => ?_) off
  by_cases e : tt = S
  · rw [e]; exact ⟨_, hS3⟩
  · exact ⟨o, off tt o e q⟩
end
section
variable {prog : Program} {w : World} {A : Around} {E : Value → Shared → Prop} {s : Shared} {us vs : Array Value} {zz ti to i1 i2 ta tb : Addr} {n : Nat} {R : Result → Shared → Prop}
theorem zt_call {Q : Value → Shared → Prop} (hh : A.handled = none) (D : ZipApart zz ti to i1 i2 ta tb) (low : ∀ c, c = zz ∨ c = ti ∨ c = to ∨ c = i1 ∨ c = i2 ∨ c = ta ∨ c = tb → c < s.heap.objs.size) (en : us.size = n) (en2 : vs.size = n) (hn : n ≤ sizeLine)
    (hp : IsPair s.heap ti (.ref i1) (.ref i2)) (j1 : s.heap.IsTupleIter i1 ta 0) (j2 : s.heap.IsTupleIter i2 tb 0) (hz0 : IsZip s.heap zz ti to .none) {a b : Value} (ho : IsPair s.heap to a b) (ka : s.heap.IsTuple ta us) (kb : s.heap.IsTuple tb vs)
    (hQ : ∀ g tk acc c bs, (∀ b o, b ≠ zz → b ≠ to → b ≠ i1 → b ≠ i2 → s.heap.get? b = some o → g.get? b = some o) → g.get? s.heap.objs.size = some { cls := .type "list", dict := none, data := .seq acc c, slots := #[] } → bs.length = n → ZtG us vs s.heap.objs.size g bs →
      acc.toList = bs.map Value.ref → Q (.ref s.heap.objs.size) { s with heap := g, toks := tk }) :
    wpAny (model prog w) A (call (.type "list") [.ref zz]) Q E s := by
  refine callType_codes (Q₁ := fun obj s₁ => obj = .ref s.heap.objs.size ∧ s₁ = { s with heap := s.heap.push { cls := .type "list", data := .seq #[] } }) PySem.F.called_list (PySem.F.typeCall_list_1 _) PySem.F.entry_list_init (code_list_new _ ⟨rfl, rfl⟩) fun obj s1 q => ?_
  obtain ⟨rfl, rfl⟩ := q
  have up : ∀ c o, s.heap.get? c = some o → (s.heap.push { cls := .type "list", data := .seq #[] }).get? c = some o := fun c o q => Heap.get?_push_of_some _ q
  have hS : (s.heap.push { cls := .type "list", data := .seq #[] }).get? s.heap.objs.size = some { cls := .type "list", data := .seq #[] } := Heap.get?_push_size _ rfl
  refine ⟨⟨_, hS, rfl⟩, PySem.F.args_list_init_2 _ _, ?_⟩
  show wpAny _ _ (do let old ← Builtin.List.listItems (.ref s.heap.objs.size); Builtin.List.listUpdate (.ref s.heap.objs.size) (fun _ => #[]); letGo old.toList.reverse; Builtin.List.listExtendWith (.ref s.heap.objs.size) (.ref zz) .none) _ _ _
  refine wpAny_bind ?_
  unfold Builtin.List.listItems
  refine wpAny_bind (wpAny_seqItems hS rfl (wpAny_pure ?_))
  show wpAny _ _ (updateSeq s.heap.objs.size (fun _ => #[]) >>= fun _ => letGo (#[] : Array Value).toList.reverse >>= fun _ => Builtin.List.listExtendWith (.ref s.heap.objs.size) (.ref zz) .none) _ _ _
  refine wpAny_bind (wpAny_updateSeq hS rfl ?_)
  have hS2 := Heap.get?_update_self (Obj.mapSeq (fun _ => (#[] : Array Value))) hS rfl
  have off : ∀ b o, b ≠ s.heap.objs.size → s.heap.get? b = some o → ((s.heap.push { cls := .type "list", data := .seq #[] }).update s.heap.objs.size (Obj.mapSeq (fun _ => (#[] : Array Value)))).get? b = some o :=
    fun b o hb q => (Heap.get?_update_other _ _ (Ne.symm hb)).trans (up b o q)
  have off2 : ∀ b o, s.heap.get? b = some o → ((s.heap.push { cls := .type "list", data := .seq #[] }).update s.heap.objs.size (Obj.mapSeq (fun _ => (#[] : Array Value)))).get? b = some o := fun b o q => off b o (Nat.ne_of_lt (Heap.lt_size q)) q
  refine wpAny_bind (wpAny_letGo ?_)
  refine zt_extend (A := A.in1) hh D low en en2 hn .none _ ⟨off2 _ _ hp, j1.at fun o q => off2 _ o q, j2.at fun o q => off2 _ o q, .inl ⟨off2 _ _ hz0, a, b, off2 _ _ ho⟩⟩ (off2 _ _ hz0) (ka.at fun o q => off2 _ o q) (kb.at fun o q => off2 _ o q) hS2 fun g tk acc c bs kp gS hl hG hacc => ?_
  exact ⟨rfl, hQ g tk acc c bs (fun b o m2 m3 m4 m5 q => kp b o (Nat.ne_of_lt (Heap.lt_size q)) m2 m3 m4 m5 (off2 b o q)) gS hl hG hacc⟩
end
/-- pairs tracked at their addresses -/
def putP : Hp → List Addr → List (V × V) → Hp
  | H, a :: as, p :: ps => putP (upd H a (.tup [p.1, p.2])) as ps
  | H, _, _ => H
theorem putP_off {b : Addr} : ∀ (as : List Addr) (ps : List (V × V)) (H : Hp), b ∉ as → putP H as ps b = H b
  | [], _, _, _ => rfl
  | _ :: _, [], _, _ => rfl
  | a :: as, p :: ps, H, h => (putP_off as ps _ fun z => h (List.mem_cons_of_mem _ z)).trans (upd_ne fun z => h (z ▸ List.mem_cons_self))
theorem putP_at : ∀ (as : List Addr) (ps : List (V × V)) (H : Hp), as.Nodup → ∀ (j : Nat) (a : Addr) (p : V × V), as[j]? = some a → ps[j]? = some p → putP H as ps a = some (.tup [p.1, p.2])
  | [], _, _, _, _, _, _, h, _ => by simp at h
  | _ :: _, [], _, _, _, _, _, _, h => by simp at h
  | a :: as, p :: ps, H, hn, 0, a', p', h1, h2 => by
    have e1 : a = a' := Option.some.inj h1
    have e2 : p = p' := Option.some.inj h2
    subst e1 e2
    exact (putP_off as ps _ (List.nodup_cons.mp hn).1).trans upd_same
  | a :: as, p :: ps, H, hn, j + 1, a', p', h1, h2 => putP_at as ps _ (List.nodup_cons.mp hn).2 j a' p' h1 h2
/-- list(zip(t, u)): a new list of new pairs -/
def tListZip (K : PySem.W.Frag) (ta : TA) : TE := fun σ H Q => ta σ H fun vs H1 => ∃ a b xs ys, vs = [.ref a, .ref b] ∧ SqT K H1 a xs ∧ SqT K H1 b ys ∧ xs.length = ys.length ∧
  ∀ (H' : Hp) (p : Addr) (bs : List Addr), Same H1 H' → H1 p = none → (∀ t ∈ bs, H1 t = none) → H' p = some (.lst (bs.map V.ref)) → bs.length = xs.length → (∀ (j : Nat) (t : Addr), bs[j]? = some t → ∃ x y, xs[j]? = some x ∧ ys[j]? = some y ∧ H' t = some (.tup [x, y])) → Q (.ref p) H'
section
variable {X : Cx} {e e2 : Expr} {ta : TA} {p p2 pos pos2 : Pos}
theorem pe_listZip (hc : X.calm = true) (hg : Gl X "list") (hm : X.mg "list" = none) (hv : bootBuiltins "list" = some (.type "list")) (hg2 : Gl X "zip") (hm2 : X.mg "zip" = none) (ha : PA X [e, e2] ta)
    (hs : starEach [.Call (.Name "zip" p2) [e, e2] [] pos2] X.env = (false, eval (.Call (.Name "zip" p2) [e, e2] [] pos2) X.env) :: starEach [] X.env := by rfl)
    (hs2 : starEach [e, e2] X.env = (false, eval e X.env) :: starEach [e2] X.env := by rfl) (hpl : (backTo pos2 (starEach [e2] X.env)).any (·.1) = false := by rfl) :
    PE X (.Call (.Name "list" p) [.Call (.Name "zip" p2) [e, e2] [] pos2] [] pos) (tListZip X.K ta) := by
  refine ⟨fun pins s σ H Q I hq => ?_⟩
  refine wpAny_Call_Name_kw (ld_blt I hg hm hv ?_)
  refine PyProof.Rows.callWith_type1 ?_ hs rfl
  rw [hs]
  show wpAny _ _ (spliced ((false, eval (.Call (.Name "zip" p2) [e, e2] [] pos2) X.env) :: backTo pos (starEach [] X.env))) _ _ s
  refine Calls.spliced_cons ?_
  refine Call_ (ld_blt I hg2 hm2 PyProof.Rows.boot_zip (PyProof.Rows.callWith_type1 (thn (ha.run pos2 pins s σ H _ I hq) fun vals s1 ⟨vs, H1, I1, r1, q1⟩ => ?_) hs2 hpl))
  obtain ⟨a, b, xs, ys, ex, hx, hy, hl, q⟩ := q1
  subst ex
  obtain ⟨its, rv, t1, z1⟩ := I1.tuple hx
  obtain ⟨its2, rv2, t2, z2⟩ := I1.tuple hy
  have l1 := rv.length
  have l2 := rv2.length
  obtain ⟨o1, ho1, _⟩ := id t1
  obtain ⟨o2, ho2, _⟩ := id t2
  cases r1 with
  | cons r rr =>
    cases rr with
    | cons r' rr =>
      cases rr
      cases r
      cases r'
      refine RZ.call_zipT (show s1.heap.IsTuple a its.toArray from t1) (show s1.heap.IsTuple b its2.toArray from t2) fun g hz hTI hTO h1 h2 gsz hk => ?_
      refine Calls.spliced_nil ?_
      have I2 : Inv X pins σ H1 { s1 with heap := g } := I1.kept (t' := s1.toks) hk
      have la := Heap.lt_size ho1
      have lb := Heap.lt_size ho2
      refine zt_call (s := { s1 with heap := g }) (us := its.toArray) (vs := its2.toArray) (n := xs.length) (I1.ok.hd hc) (PySem.W.ktu_apart s1.heap.objs.size a b la lb) ?_ (by rw [List.size_toArray]; exact l1.symm) (by rw [List.size_toArray, hl]; exact l2.symm) z1 hTI h1 h2 hz hTO ((show s1.heap.IsTuple a its.toArray from t1).at fun o e => hk _ o e) ((show s1.heap.IsTuple b its2.toArray from t2).at fun o e => hk _ o e) fun g2 tk acc c bs kp gS hbl hG hacc => ?_
      · show ∀ c, _ → c < g.objs.size
        rw [gsz]
        intro c q
        have la' : (a : Nat) < s1.heap.objs.size := la
        have lb' : (b : Nat) < s1.heap.objs.size := lb
        rcases q with q | q | q | q | q | q | q <;> (rw [q]; first | exact Nat.lt_of_lt_of_le la' (Nat.le_add_right _ _) | exact Nat.lt_of_lt_of_le lb' (Nat.le_add_right _ _) | exact Nat.lt_add_of_pos_right (by decide) | exact Nat.add_lt_add_left (by decide) _)
      · have hkp : ∀ b o, s1.heap.get? b = some o → g2.get? b = some o := fun b o e => by
          have lt := Heap.lt_size e
          have ne : ∀ k : Nat, b ≠ s1.heap.objs.size + k := fun k => Nat.ne_of_lt (Nat.lt_of_lt_of_le lt (Nat.le_add_right _ _))
          exact kp b o (ne 4) (ne 3) (ne 0) (ne 1) (hk b o e)
        have lowS : s1.heap.objs.size ≤ g.objs.size := by rw [gsz]; exact Nat.le_add_right _ _
        have nd : bs.Nodup := List.Pairwise.imp (fun {a b} (h : a < b) => Nat.ne_of_lt h) hG.rise
        have new : ∀ t ∈ bs, H1 t = none := fun t ht => I1.hok.fresh (Nat.le_trans lowS (Nat.le_of_lt (hG.above t ht)))
        have newS : H1 g.objs.size = none := I1.hok.fresh lowS
        have hSn : g.objs.size ∉ bs := fun z => Nat.lt_irrefl _ (hG.above _ z)
        have off : ∀ b, b ∉ bs → b ≠ g.objs.size → putP (upd H1 g.objs.size (.lst (bs.map V.ref))) bs (xs.zip ys) b = H1 b := fun b m1 m2 => (putP_off bs _ _ m1).trans (upd_ne m2)
        have kpH : ∀ b u, H1 b = some u → putP (upd H1 g.objs.size (.lst (bs.map V.ref))) bs (xs.zip ys) b = some u := fun b u e => by
          rw [off b (fun z => by rw [new b z] at e; cases e) (fun z => by rw [z, newS] at e; cases e)]
          exact e
        have eS : putP (upd H1 g.objs.size (.lst (bs.map V.ref))) bs (xs.zip ys) g.objs.size = some (.lst (bs.map V.ref)) := by rw [putP_off bs _ _ hSn, upd_same]
        have atj : ∀ (j : Nat) (t : Addr), bs[j]? = some t → ∃ x y, xs[j]? = some x ∧ ys[j]? = some y ∧ putP (upd H1 g.objs.size (.lst (bs.map V.ref))) bs (xs.zip ys) t = some (.tup [x, y]) := fun j t hj => by
          have jl : j < xs.length := by
            have := (List.getElem?_eq_some_iff.mp hj).1
            omega
          have jl2 : j < ys.length := by omega
          refine ⟨xs[j], ys[j], List.getElem?_eq_getElem jl, List.getElem?_eq_getElem jl2, ?_⟩
          exact putP_at bs (xs.zip ys) _ nd j t (xs[j], ys[j]) hj ((List.getElem?_zip_eq_some (z := (xs[j], ys[j]))).mpr ⟨List.getElem?_eq_getElem jl, List.getElem?_eq_getElem jl2⟩)
        refine ⟨.ref g.objs.size, _, ?_, rfl, q _ g.objs.size bs kpH newS new eS hbl atj⟩
        show Inv X pins σ (putP (upd H1 g.objs.size (.lst (bs.map V.ref))) bs (xs.zip ys)) { s1 with heap := g2, toks := tk }
        refine I1.call' (ch := []) rfl ⟨fun b o q _ _ _ => hkp b o q, fun b o q _ _ _ => ⟨o.slots, hkp b o q⟩, fun b o q n _ => ?_, fun b o q _ => ⟨o, hkp b o q⟩, fun b xs q => kpH b _ q, fun b o u q => kpH b _ q, fun b ps q => ⟨#[], by rw [kpH b _ q]; simp⟩⟩ (fun b u q => ?_) I1.bare fun b z => by simp at z
        · have lt := Heap.lt_size q
          rw [off b (fun z => absurd lt (Nat.not_lt.mpr (Nat.le_trans lowS (Nat.le_of_lt (hG.above b z))))) (Nat.ne_of_lt (Nat.lt_of_lt_of_le lt lowS))]
          exact n
        · by_cases hb : b ∈ bs
          · obtain ⟨j, hj⟩ := List.mem_iff_getElem?.mp hb
            obtain ⟨x, y, e1, e2, e3⟩ := atj j b hj
            obtain ⟨u1, v1, f1, f2, f3⟩ := hG.pairs j b hj
            rw [e3] at q
            cases q
            obtain ⟨u2, g1, ru⟩ := rv.get e1
            obtain ⟨v2, g2', rv'⟩ := rv2.get e2
            have a1 : u1 = u2 := by
              rw [List.getElem?_toArray, g1] at f1
              exact (Option.some.inj f1).symm
            have a2 : v1 = v2 := by
              rw [List.getElem?_toArray, g2'] at f2
              exact (Option.some.inj f2).symm
            rw [a1, a2] at f3
            exact ⟨by show 2 ≤ sizeLine; decide, [u2, v2], .cons ru (.cons rv' .nil), ⟨_, f3, rfl, _, rfl⟩⟩
          · by_cases hb2 : b = g.objs.size
            · rw [hb2] at q ⊢
              rw [eS] at q
              cases q
              refine ⟨by rw [List.length_map]; omega, acc.toList, c, by rw [hacc]; exact LiI.vals_refs bs, ?_⟩
              rw [Array.toArray_toList]
              exact gS
            · rw [off b hb hb2] at q
              exact (I1.hok b u q).stay (fun d v _ y => hkp d v y) (fun d y => kpH d _ y) fun d xs y => kpH d _ y
end
end Toy

set_option Elab.async false
set_option linter.all false
set_option maxRecDepth 100000
set_option maxHeartbeats 4000000
/-! Part B: types, in plain Lean, and how they stand in the heap. -/
namespace Toy
open PySem L2
inductive Kd
  | nm (s : Str)
  | mt (i : Int)
  | fn (a b : Kd)
  | cn (s : Str) (l : List Kd)
mutual
def Kd.D : Kd → PyData
  | .nm s => .tuple [.str "name", .str s]
  | .mt i => .tuple [.str "meta", .int i]
  | .fn a b => .tuple [.str "fun", a.D, b.D]
  | .cn s l => .tuple [.str "con", .str s, .tuple (Kd.Ds l)]
def Kd.Ds : List Kd → List PyData
  | [] => []
  | k :: l => k.D :: Kd.Ds l
end
/-- the types directly in a type -/
def Kd.parts : Kd → List Kd
  | .nm _ => []
  | .mt _ => []
  | .fn a b => [a, b]
  | .cn _ l => l
mutual
/-- a type stands in the heap as v, in tuples that are tracked -/
def Kd.At (H : Hp) : Kd → V → Prop
  | .nm s, v => ∃ a, v = .ref a ∧ H a = some (.tup [.str "name", .str s])
  | .mt i, v => ∃ a, v = .ref a ∧ H a = some (.tup [.str "meta", .int i])
  | .fn p q, v => ∃ a x y, v = .ref a ∧ H a = some (.tup [.str "fun", x, y]) ∧ p.At H x ∧ q.At H y
  | .cn s l, v => ∃ a b xs, v = .ref a ∧ H a = some (.tup [.str "con", .str s, .ref b]) ∧ H b = some (.tup xs) ∧ Kd.Ats H l xs
def Kd.Ats (H : Hp) : List Kd → List V → Prop
  | [], xs => xs = []
  | k :: l, xs => ∃ x ys, xs = x :: ys ∧ k.At H x ∧ Kd.Ats H l ys
end
/-- a heap in which the tuples stand -/
def TK (H H' : Hp) : Prop := ∀ a xs, H a = some (.tup xs) → H' a = some (.tup xs)
theorem TK.refl (H : Hp) : TK H H := fun _ _ h => h
theorem TK.trans {H1 H2 H3 : Hp} (h : TK H1 H2) (k : TK H2 H3) : TK H1 H3 := fun a xs e => k a xs (h a xs e)
theorem tk_same {H H' : Hp} (s : Same H H') : TK H H' := fun _ _ e => s _ _ e
theorem tk_upd {H : Hp} {p : Addr} {o : HO} (n : ∀ xs, H p ≠ some (.tup xs)) : TK H (upd H p o) := fun a xs e => by
  rw [upd_ne (fun z => n xs (by rw [← z]; exact e))]
  exact e
theorem tk_list {H : Hp} {p : Addr} {ys : List V} {o : HO} (h : H p = some (.lst ys)) : TK H (upd H p o) := tk_upd fun xs e => by rw [h] at e; cases e
theorem tk_dict {H : Hp} {p : Addr} {kvs : List (Key × V)} {o : HO} (h : H p = some (.dK kvs)) : TK H (upd H p o) := tk_upd fun xs e => by rw [h] at e; cases e
theorem tk_dictT {H : Hp} {p : Addr} {kvs : List (List Key × V)} {o : HO} (h : H p = some (.dT kvs)) : TK H (upd H p o) := tk_upd fun xs e => by rw [h] at e; cases e
theorem tk_new {H : Hp} {p : Addr} {o : HO} (h : H p = none) : TK H (upd H p o) := tk_same (same_new h o)
theorem tk_keep {p : Addr} {H H' : Hp} (k : Keep p H H') (n : ∀ xs, H p ≠ some (.tup xs)) : TK H H' := fun a xs e => k a _ (fun z => n xs (z ▸ e)) e
theorem DrawsAt.notup {H : Hp} {p r : Addr} (d : DrawsAt H p r) : ∀ xs, H p ≠ some (.tup xs) := fun xs e => by
  obtain ⟨_, _, _, h, _⟩ := d
  rw [h] at e
  cases e
mutual
theorem Kd.At.keep {H H' : Hp} : ∀ {k : Kd} {v : V}, TK H H' → k.At H v → k.At H' v
  | .nm s, _, t, ⟨a, e, h⟩ => ⟨a, e, t _ _ h⟩
  | .mt i, _, t, ⟨a, e, h⟩ => ⟨a, e, t _ _ h⟩
  | .fn p q, _, t, ⟨a, x, y, e, h, h1, h2⟩ => ⟨a, x, y, e, t _ _ h, Kd.At.keep t h1, Kd.At.keep t h2⟩
  | .cn s l, _, t, ⟨a, b, xs, e, h, hb, hl⟩ => ⟨a, b, xs, e, t _ _ h, t _ _ hb, Kd.Ats.keep t hl⟩
theorem Kd.Ats.keep {H H' : Hp} : ∀ {l : List Kd} {xs : List V}, TK H H' → Kd.Ats H l xs → Kd.Ats H' l xs
  | [], _, _, h => h
  | k :: l, _, t, ⟨x, ys, e, h1, h2⟩ => ⟨x, ys, e, Kd.At.keep t h1, Kd.Ats.keep t h2⟩
end
mutual
theorem Kd.At.dp {K : PySem.W.Frag} {H : Hp} : ∀ {k : Kd} {v : V}, k.At H v → Dp K H v k.D
  | .nm s, _, ⟨a, e, h⟩ => by
    subst e
    exact .tup (SqT.of h) (.cons (.str _) (.cons (.str _) .nil))
  | .mt i, _, ⟨a, e, h⟩ => by
    subst e
    exact .tup (SqT.of h) (.cons (.str _) (.cons (.int _) .nil))
  | .fn p q, _, ⟨a, x, y, e, h, h1, h2⟩ => by
    subst e
    exact .tup (SqT.of h) (.cons (.str _) (.cons (Kd.At.dp h1) (.cons (Kd.At.dp h2) .nil)))
  | .cn s l, _, ⟨a, b, xs, e, h, hb, hl⟩ => by
    subst e
    exact .tup (SqT.of h) (.cons (.str _) (.cons (.str _) (.cons (.tup (SqT.of hb) (Kd.Ats.dp hl)) .nil)))
theorem Kd.Ats.dp {K : PySem.W.Frag} {H : Hp} : ∀ {l : List Kd} {xs : List V}, Kd.Ats H l xs → DpAll K H xs (Kd.Ds l)
  | [], _, h => by
    have e : _ = [] := h
    subst e
    exact .nil
  | k :: l, _, ⟨x, ys, e, h1, h2⟩ => by
    subst e
    exact .cons (Kd.At.dp h1) (Kd.Ats.dp h2)
end
theorem Kd.Ats.len {H : Hp} : ∀ {l : List Kd} {xs : List V}, Kd.Ats H l xs → xs.length = l.length
  | [], _, h => by
    have e : _ = [] := h
    subst e
    rfl
  | k :: l, _, ⟨x, ys, e, h1, h2⟩ => by
    subst e
    rw [List.length_cons, List.length_cons, Kd.Ats.len h2]
theorem Kd.Ats.get {H : Hp} : ∀ {l : List Kd} {xs : List V} (j : Nat) {x : V}, Kd.Ats H l xs → xs[j]? = some x → ∃ k, l[j]? = some k ∧ k.At H x
  | [], _, j, x, h, e => by
    have z : _ = [] := h
    subst z
    simp at e
  | k :: l, _, 0, x, ⟨y, ys, e, h1, h2⟩, q => by
    subst e
    have z : y = x := Option.some.inj q
    subst z
    exact ⟨k, rfl, h1⟩
  | k :: l, _, j + 1, x, ⟨y, ys, e, h1, h2⟩, q => by
    subst e
    exact Kd.Ats.get (l := l) j h2 q
/-- the tuple of a type: its word, then what it has -/
def Kd.word : Kd → Str
  | .nm _ => "name"
  | .mt _ => "meta"
  | .fn _ _ => "fun"
  | .cn _ _ => "con"
theorem Kd.At.tup {H : Hp} : ∀ {k : Kd} {v : V}, k.At H v → ∃ a xs, v = .ref a ∧ H a = some (.tup (.str k.word :: xs))
  | .nm s, _, ⟨a, e, h⟩ => ⟨a, _, e, h⟩
  | .mt i, _, ⟨a, e, h⟩ => ⟨a, _, e, h⟩
  | .fn p q, _, ⟨a, x, y, e, h, _⟩ => ⟨a, _, e, h⟩
  | .cn s l, _, ⟨a, b, xs, e, h, _⟩ => ⟨a, _, e, h⟩
/-! ### sizes, depths, what may be compared -/
mutual
def Kd.size : Kd → Nat
  | .nm _ => 1
  | .mt _ => 1
  | .fn a b => 1 + a.size + b.size
  | .cn _ l => 1 + Kd.sizes l
def Kd.sizes : List Kd → Nat
  | [] => 0
  | k :: l => k.size + Kd.sizes l
end
theorem Kd.sizes_app : ∀ a b : List Kd, Kd.sizes (a ++ b) = Kd.sizes a + Kd.sizes b
  | [], b => by rw [List.nil_append, Kd.sizes, Nat.zero_add]
  | k :: a, b => by rw [List.cons_append, Kd.sizes, Kd.sizes, Kd.sizes_app a b, Nat.add_assoc]
mutual
def Kd.dep : Kd → Nat
  | .nm _ => 0
  | .mt _ => 0
  | .fn a b => 1 + max a.dep b.dep
  | .cn _ l => 1 + Kd.deps l
def Kd.deps : List Kd → Nat
  | [] => 0
  | k :: l => max k.dep (Kd.deps l)
end
mutual
/-- its texts are texts that may be compared -/
def Kd.lay : Kd → Bool
  | .nm s => PyData.strOk s
  | .mt _ => true
  | .fn a b => a.lay && b.lay
  | .cn s l => PyData.strOk s && Kd.lays l
def Kd.lays : List Kd → Bool
  | [] => true
  | k :: l => k.lay && Kd.lays l
end
theorem ok_name : PyData.strOk "name" = true := by decide +kernel
theorem ok_meta : PyData.strOk "meta" = true := by decide +kernel
theorem ok_fun : PyData.strOk "fun" = true := by decide +kernel
theorem ok_con : PyData.strOk "con" = true := by decide +kernel
mutual
theorem Kd.canLay : ∀ k : Kd, k.lay = true → k.D.canLay0 = true
  | .nm s, h => by
    have h : PyData.strOk s = true := h
    simp [Kd.D, PyData.canLay0, PyData.canLayAll0, ok_name, h]
  | .mt i, _ => by simp [Kd.D, PyData.canLay0, PyData.canLayAll0, ok_meta]
  | .fn a b, h => by
    have h : (a.lay && b.lay) = true := h
    rw [Bool.and_eq_true] at h
    simp [Kd.D, PyData.canLay0, PyData.canLayAll0, ok_fun, Kd.canLay a h.1, Kd.canLay b h.2]
  | .cn s l, h => by
    have h : (PyData.strOk s && Kd.lays l) = true := h
    rw [Bool.and_eq_true] at h
    simp [Kd.D, PyData.canLay0, PyData.canLayAll0, ok_con, h.1, Kd.canLays l h.2]
theorem Kd.canLays : ∀ l : List Kd, Kd.lays l = true → PyData.canLayAll0 (Kd.Ds l) = true
  | [], _ => by simp [Kd.Ds, PyData.canLayAll0]
  | k :: l, h => by
    have h : (k.lay && Kd.lays l) = true := h
    rw [Bool.and_eq_true] at h
    simp [Kd.Ds, PyData.canLayAll0, Kd.canLay k h.1, Kd.canLays l h.2]
end
mutual
theorem Kd.depth_le : ∀ k : Kd, k.D.depth ≤ 2 * k.dep + 1
  | .nm s => by simp [Kd.D, PyData.depth, PyData.depthAll]
  | .mt i => by simp [Kd.D, PyData.depth, PyData.depthAll]
  | .fn a b => by
    have h1 := Kd.depth_le a
    have h2 := Kd.depth_le b
    simp [Kd.D, PyData.depth, PyData.depthAll, Kd.dep]
    omega
  | .cn s l => by
    have h1 := Kd.depths_le l
    simp [Kd.D, PyData.depth, PyData.depthAll, Kd.dep]
    omega
theorem Kd.depths_le : ∀ l : List Kd, PyData.depthAll (Kd.Ds l) ≤ 2 * Kd.deps l + 1
  | [] => by simp [Kd.Ds, PyData.depthAll]
  | k :: l => by
    have h1 := Kd.depth_le k
    have h2 := Kd.depths_le l
    simp [Kd.Ds, PyData.depthAll, Kd.deps]
    omega
end
theorem Kd.shaped {k : Kd} (h : k.lay = true) (d : k.dep ≤ 30) : SeqAt.shaped k.D = true := by
  unfold SeqAt.shaped
  rw [Bool.and_eq_true]
  have := Kd.depth_le k
  exact ⟨Kd.canLay k h, decide_eq_true (by omega)⟩
theorem sne1 : (("name" : Str) == "meta") = false := by decide +kernel
theorem sne2 : (("meta" : Str) == "name") = false := by decide +kernel
theorem sne3 : (("name" : Str) == "fun") = false := by decide +kernel
theorem sne4 : (("fun" : Str) == "name") = false := by decide +kernel
theorem sne5 : (("name" : Str) == "con") = false := by decide +kernel
theorem sne6 : (("con" : Str) == "name") = false := by decide +kernel
theorem sne7 : (("meta" : Str) == "fun") = false := by decide +kernel
theorem sne8 : (("fun" : Str) == "meta") = false := by decide +kernel
theorem sne9 : (("meta" : Str) == "con") = false := by decide +kernel
theorem sne10 : (("con" : Str) == "meta") = false := by decide +kernel
theorem sne11 : (("fun" : Str) == "con") = false := by decide +kernel
theorem sne12 : (("con" : Str) == "fun") = false := by decide +kernel
theorem str_eqv (x y : Str) : PyData.eqv (.str x) (.str y) = (x == y) := by rw [PyData.eqv]
theorem int_eqv (x y : Int) : PyData.eqv (.int x) (.int y) = (x == y) := by rw [PyData.eqv]
theorem is_eqv (x : Str) (y : Int) : PyData.eqv (.str x) (.int y) = false := by rw [PyData.eqv]
theorem si_eqv (x : Str) (y : Int) : PyData.eqv (.int y) (.str x) = false := by rw [PyData.eqv]
theorem tup_eqv (x y : List PyData) : PyData.eqv (.tuple x) (.tuple y) = PyData.eqvAll x y := by rw [PyData.eqv]
theorem all_eqv (a b : PyData) (x y : List PyData) : PyData.eqvAll (a :: x) (b :: y) = (PyData.eqv a b && PyData.eqvAll x y) := by rw [PyData.eqvAll]
theorem nil_eqv : PyData.eqvAll [] [] = true := by rw [PyData.eqvAll]
theorem nc_eqv (b : PyData) (y : List PyData) : PyData.eqvAll [] (b :: y) = false := by rw [PyData.eqvAll]
theorem cn_eqv (b : PyData) (y : List PyData) : PyData.eqvAll (b :: y) [] = false := by rw [PyData.eqvAll]
theorem Kd.eqv_word {k m : Kd} (h : (k.word == m.word) = false) : PyData.eqv k.D m.D = false := by
  have e : ∀ k : Kd, ∃ l, k.D = .tuple (.str k.word :: l) := fun k => by cases k <;> exact ⟨_, rfl⟩
  obtain ⟨l1, e1⟩ := e k
  obtain ⟨l2, e2⟩ := e m
  rw [e1, e2, tup_eqv, all_eqv, str_eqv, h, Bool.false_and]
theorem iff_ne {b : Bool} {p : Prop} (h : b = false) (n : ¬ p) : b = true ↔ p := ⟨fun e => (by rw [h] at e; cases e), fun q => (n q).elim⟩
mutual
theorem Kd.eqv_iff : ∀ k m : Kd, PyData.eqv k.D m.D = true ↔ k = m
  | .nm s, m => by
    cases m with
    | nm t =>
      rw [Kd.D, Kd.D, tup_eqv, all_eqv, all_eqv, str_eqv, str_eqv, nil_eqv, beq_self_eq_true, Bool.true_and, Bool.and_true, beq_iff_eq]
      exact ⟨fun e => by rw [e], fun e => by cases e; rfl⟩
    | mt j => exact iff_ne (Kd.eqv_word sne1) (fun e => by cases e)
    | fn c d => exact iff_ne (Kd.eqv_word sne3) (fun e => by cases e)
    | cn t m => exact iff_ne (Kd.eqv_word sne5) (fun e => by cases e)
  | .mt i, m => by
    cases m with
    | nm t => exact iff_ne (Kd.eqv_word sne2) (fun e => by cases e)
    | mt j =>
      rw [Kd.D, Kd.D, tup_eqv, all_eqv, all_eqv, str_eqv, int_eqv, nil_eqv, beq_self_eq_true, Bool.true_and, Bool.and_true, beq_iff_eq]
      exact ⟨fun e => by rw [e], fun e => by cases e; rfl⟩
    | fn c d => exact iff_ne (Kd.eqv_word sne7) (fun e => by cases e)
    | cn t m => exact iff_ne (Kd.eqv_word sne9) (fun e => by cases e)
  | .fn a b, m => by
    cases m with
    | nm t => exact iff_ne (Kd.eqv_word sne4) (fun e => by cases e)
    | mt j => exact iff_ne (Kd.eqv_word sne8) (fun e => by cases e)
    | fn c d =>
      rw [Kd.D, Kd.D, tup_eqv, all_eqv, all_eqv, all_eqv, str_eqv, nil_eqv, beq_self_eq_true, Bool.true_and, Bool.and_true, Bool.and_eq_true, Kd.eqv_iff a c, Kd.eqv_iff b d]
      exact ⟨fun e => by rw [e.1, e.2], fun e => by cases e; exact ⟨rfl, rfl⟩⟩
    | cn t m => exact iff_ne (Kd.eqv_word sne11) (fun e => by cases e)
  | .cn s l, m => by
    cases m with
    | nm t => exact iff_ne (Kd.eqv_word sne6) (fun e => by cases e)
    | mt j => exact iff_ne (Kd.eqv_word sne10) (fun e => by cases e)
    | fn c d => exact iff_ne (Kd.eqv_word sne12) (fun e => by cases e)
    | cn t m =>
      rw [Kd.D, Kd.D, tup_eqv, all_eqv, all_eqv, all_eqv, str_eqv, str_eqv, tup_eqv, nil_eqv, beq_self_eq_true, Bool.true_and, Bool.and_true, Bool.and_eq_true, beq_iff_eq, Kd.eqvs_iff l m]
      exact ⟨fun e => by rw [e.1, e.2], fun e => by cases e; exact ⟨rfl, rfl⟩⟩
theorem Kd.eqvs_iff : ∀ l m : List Kd, PyData.eqvAll (Kd.Ds l) (Kd.Ds m) = true ↔ l = m
  | [], m => by
    cases m with
    | nil => rw [Kd.Ds, nil_eqv]; exact ⟨fun _ => rfl, fun _ => rfl⟩
    | cons n m => rw [Kd.Ds, Kd.Ds]; exact iff_ne (nc_eqv _ _) (fun e => by cases e)
  | k :: l, m => by
    cases m with
    | nil => rw [Kd.Ds, Kd.Ds]; exact iff_ne (cn_eqv _ _) (fun e => by cases e)
    | cons n m =>
      rw [Kd.Ds, Kd.Ds, all_eqv, Bool.and_eq_true, Kd.eqv_iff k n, Kd.eqvs_iff l m]
      exact ⟨fun e => by rw [e.1, e.2], fun e => by cases e; exact ⟨rfl, rfl⟩⟩
end
end Toy

set_option Elab.async false
set_option linter.all false
set_option maxRecDepth 100000
set_option maxHeartbeats 4000000
/-! Part M: leaves; types put in the place of names; when a type is an instance of another. -/
namespace Toy
open PySem L2
mutual
/-- the leaves of one word ("name" | "meta"), from left to right -/
def Kd.lv (w : Str) : Kd → List Key
  | .nm s => if w = "name" then [Sum.inr s] else []
  | .mt i => if w = "meta" then [Sum.inl i] else []
  | .fn a b => a.lv w ++ b.lv w
  | .cn _ l => Kd.lvs w l
def Kd.lvs (w : Str) : List Kd → List Key
  | [] => []
  | k :: l => k.lv w ++ Kd.lvs w l
end
theorem Kd.lvs_app (w : Str) : ∀ a b : List Kd, Kd.lvs w (a ++ b) = Kd.lvs w a ++ Kd.lvs w b
  | [], b => rfl
  | k :: a, b => by rw [List.cons_append, Kd.lvs, Kd.lvs, Kd.lvs_app w a b, List.append_assoc]
/-- one more key, unless it is there -/
noncomputable def addK (ks : List Key) (k : Key) : List Key := open Classical in if k ∈ ks then ks else ks ++ [k]
noncomputable def addAll (ks l : List Key) : List Key := l.foldl addK ks
theorem addAll_app (ks a b : List Key) : addAll ks (a ++ b) = addAll (addAll ks a) b := List.foldl_append
theorem mem_addK {ks : List Key} {k j : Key} : j ∈ addK ks k ↔ j ∈ ks ∨ j = k := by
  unfold addK
  split
  · rename_i h
    exact ⟨.inl, fun e => by rcases e with e | e; exact e; rw [e]; exact h⟩
  · rw [List.mem_append, List.mem_singleton]
theorem mem_addAll : ∀ {l ks : List Key} {j : Key}, j ∈ addAll ks l ↔ j ∈ ks ∨ j ∈ l
  | [], ks, j => by simp [addAll]
  | k :: l, ks, j => by
    show j ∈ addAll (addK ks k) l ↔ _
    rw [mem_addAll, mem_addK, List.mem_cons]
    constructor
    · rintro ((h | h) | h)
      · exact .inl h
      · exact .inr (.inl h)
      · exact .inr (.inr h)
    · rintro (h | h | h)
      · exact .inl (.inl h)
      · exact .inl (.inr h)
      · exact .inr h
theorem len_addK (ks : List Key) (k : Key) : (addK ks k).length ≤ ks.length + 1 := by
  unfold addK
  split
  · omega
  · rw [List.length_append, List.length_singleton]
    exact Nat.le_refl _
theorem Kd.size_parts : ∀ k : Kd, Kd.sizes k.parts + 1 = k.size
  | .nm s => rfl
  | .mt i => rfl
  | .fn a b => by
    show Kd.sizes [a, b] + 1 = 1 + a.size + b.size
    rw [Kd.sizes, Kd.sizes, Kd.sizes]
    omega
  | .cn s l => by show Kd.sizes l + 1 = 1 + Kd.sizes l; omega
/-- what a part lists itself -/
def Kd.own (w : Str) : Kd → List Key
  | .nm s => if w = "name" then [Sum.inr s] else []
  | .mt i => if w = "meta" then [Sum.inl i] else []
  | _ => []
theorem Kd.lv_own (w : Str) : ∀ k : Kd, k.lv w = k.own w ++ Kd.lvs w k.parts
  | .nm s => by show _ = _ ++ []; rw [List.append_nil]; rfl
  | .mt i => by show _ = _ ++ []; rw [List.append_nil]; rfl
  | .fn a b => by
      show a.lv w ++ b.lv w = Kd.lvs w [a, b]
      rw [Kd.lvs, Kd.lvs, Kd.lvs, List.append_nil]
  | .cn s l => rfl
/-- the walk with a stack, its top first -/
theorem Kd.walk_step (w : Str) (k : Kd) (stack : List Kd) (ks : List Key) :
    addAll ks (Kd.lvs w (k :: stack)) = addAll (addAll ks (k.own w)) (Kd.lvs w (k.parts ++ stack)) := by
  rw [Kd.lvs, Kd.lv_own w k, Kd.lvs_app, List.append_assoc, addAll_app]
/-- the dict that stands for a row of keys -/
def setOf (ks : List Key) : List (Key × V) := ks.map fun k => (k, V.bl true)
theorem put_set (ks : List Key) (k : Key) : putK (setOf ks) k (V.bl true) = setOf (addK ks k) := by
  unfold putK addK
  by_cases h : k ∈ ks
  · have e : ((setOf ks).any fun kv => decide (kv.1 = k)) = true := by
      rw [List.any_eq_true]
      exact ⟨(k, V.bl true), List.mem_map.mpr ⟨k, h, rfl⟩, decide_eq_true rfl⟩
    rw [if_pos e, if_pos h]
    unfold setOf
    rw [List.map_map]
    refine List.map_congr_left fun x _ => ?_
    show (if x = k then (x, V.bl true) else (x, V.bl true)) = _
    split <;> rfl
  · have e : ¬ ((setOf ks).any fun kv => decide (kv.1 = k)) = true := by
      rw [List.any_eq_true]
      rintro ⟨⟨x, v⟩, hx, hd⟩
      obtain ⟨y, hy, e2⟩ := List.mem_map.mp hx
      have e3 : x = k := of_decide_eq_true hd
      have e4 : y = x := congrArg Prod.fst e2
      exact h (by rw [← e3, ← e4]; exact hy)
    rw [if_neg e, if_neg h]
    unfold setOf
    rw [List.map_append]
    rfl
/-! ### instances -/
mutual
def Kd.sub (f : Str → Kd) : Kd → Kd
  | .nm s => f s
  | .mt i => .mt i
  | .fn a b => .fn (a.sub f) (b.sub f)
  | .cn s l => .cn s (Kd.subs f l)
def Kd.subs (f : Str → Kd) : List Kd → List Kd
  | [] => []
  | k :: l => k.sub f :: Kd.subs f l
end
theorem Kd.subs_len (f : Str → Kd) : ∀ l : List Kd, (Kd.subs f l).length = l.length
  | [] => rfl
  | k :: l => by rw [Kd.subs, List.length_cons, List.length_cons, Kd.subs_len f l]
theorem Kd.subs_iff (f : Str → Kd) : ∀ (l m : List Kd), l.length = m.length → (Kd.subs f l = m ↔ ∀ q ∈ l.zip m, q.1.sub f = q.2)
  | [], [], _ => by simp [Kd.subs]
  | [], _ :: _, h => by cases h
  | _ :: _, [], h => by cases h
  | k :: l, n :: m, h => by
    rw [Kd.subs, List.cons.injEq, Kd.subs_iff f l m (Nat.succ.inj h), List.zip_cons_cons, List.forall_mem_cons]
def Kd.alike : Kd → Kd → Bool
  | .nm s, .nm t => s == t
  | .mt i, .mt j => i == j
  | .fn _ _, .fn _ _ => true
  | .cn s l, .cn t m => l.length == m.length && s == t
  | _, _ => false
theorem Kd.alike_word {k m : Kd} (h : (k.word == m.word) = false) : k.alike m = false := by
  cases k <;> cases m <;> first | rfl | (exfalso; revert h; simp [Kd.word])
theorem Kd.alike_no (f : Str → Kd) : ∀ p k : Kd, (∀ s, p ≠ .nm s) → p.alike k = false → p.sub f ≠ k
  | .nm s, _, n, _ => (n s rfl).elim
  | .mt i, k, _, h => fun e => by
    rw [← e] at h
    simp [Kd.alike, Kd.sub] at h
  | .fn a b, k, _, h => fun e => by
    rw [← e] at h
    simp [Kd.alike, Kd.sub] at h
  | .cn s l, k, _, h => fun e => by
    rw [← e] at h
    simp [Kd.alike, Kd.sub, Kd.subs_len] at h
theorem Kd.alike_yes (f : Str → Kd) : ∀ p k : Kd, (∀ s, p ≠ .nm s) → p.alike k = true → p.parts.length = k.parts.length ∧ (p.sub f = k ↔ ∀ q ∈ p.parts.zip k.parts, q.1.sub f = q.2)
  | .nm s, _, n, _ => (n s rfl).elim
  | .mt i, k, _, h => by
    cases k with
    | mt j =>
      have e : i = j := by simpa [Kd.alike] using h
      subst e
      exact ⟨rfl, by simp [Kd.sub, Kd.parts]⟩
    | _ => cases h
  | .fn a b, k, _, h => by
    cases k with
    | fn c d => exact ⟨rfl, by simp [Kd.sub, Kd.parts]⟩
    | _ => cases h
  | .cn s l, k, _, h => by
    cases k with
    | cn t m =>
      have e : l.length = m.length ∧ s = t := by simpa [Kd.alike] using h
      obtain ⟨e1, e2⟩ := e
      subst e2
      refine ⟨e1, ?_⟩
      rw [Kd.sub]
      have z := Kd.subs_iff f l m e1
      exact ⟨fun q => z.mp (by cases q; rfl), fun q => by rw [z.mpr q]⟩
    | _ => cases h
abbrev Sb := List (Str × Kd)
def Fits (f : Str → Kd) (σ : Sb) : Prop := ∀ q ∈ σ, f q.1 = q.2
def Solves (f : Str → Kd) (todo : List (Kd × Kd)) : Prop := ∀ q ∈ todo, q.1.sub f = q.2
/-- some way to put types in the place of names -/
def Sol (σ : Sb) (todo : List (Kd × Kd)) : Prop := ∃ f, Fits f σ ∧ Solves f todo
theorem look_fits {f : Str → Kd} : ∀ {σ : Sb} {s : Str} {k : Kd}, σ.lookup s = some k → Fits f σ → f s = k
  | [], _, _, h, _ => by cases h
  | (t, m) :: σ, s, k, h, hf => by
    rw [List.lookup_cons] at h
    split at h
    · rename_i e
      have e : s = t := by simpa using e
      cases h
      subst e
      exact hf _ (List.mem_cons_self ..)
    · exact look_fits h fun q hq => hf q (List.mem_cons_of_mem _ hq)
theorem fits_add {f : Str → Kd} {σ : Sb} {s : Str} {k : Kd} : Fits f (σ ++ [(s, k)]) ↔ Fits f σ ∧ f s = k := by
  unfold Fits
  constructor
  · intro h
    exact ⟨fun q hq => h q (List.mem_append_left _ hq), h (s, k) (List.mem_append_right _ (List.mem_singleton.mpr rfl))⟩
  · rintro ⟨h1, h2⟩ q hq
    rcases List.mem_append.mp hq with hq | hq
    · exact h1 q hq
    · rw [List.mem_singleton.mp hq]
      exact h2
theorem look_none : ∀ {σ : Sb} {s : Str}, σ.lookup s = none → s ∉ σ.map (·.1)
  | [], _, _ => fun h => by cases h
  | (t, m) :: σ, s, h => by
    rw [List.lookup_cons] at h
    split at h
    · cases h
    · rename_i e
      intro z
      rcases List.mem_cons.mp z with z | z
      · rw [show s = t from z] at e
        simp at e
      · exact look_none h z
theorem nodup_add {σ : Sb} {s : Str} {k : Kd} (h : (σ.map (·.1)).Nodup) (n : σ.lookup s = none) : ((σ ++ [(s, k)]).map (·.1)).Nodup := by
  rw [List.map_append, List.nodup_append]
  refine ⟨h, by simp, fun a ha b hb => ?_⟩
  have e : b = s := by simpa using hb
  rw [e]
  exact fun z => look_none n (z ▸ ha)
theorem fits_some : ∀ {σ : Sb}, (σ.map (·.1)).Nodup → ∃ f, Fits f σ := by
  intro σ h
  refine ⟨fun s => (σ.lookup s).getD (.nm s), ?_⟩
  intro q hq
  show (σ.lookup q.1).getD _ = q.2
  have z : σ.lookup q.1 = some q.2 := by
    induction σ with
    | nil => cases hq
    | cons p σ ih =>
      obtain ⟨t, m⟩ := p
      rw [List.lookup_cons]
      have hn := List.nodup_cons.mp (show (t :: σ.map (·.1)).Nodup from h)
      rcases List.mem_cons.mp hq with e | hq'
      · subst e
        rw [beq_self_eq_true]
      · have ne : (q.1 == t) = false := by
          rw [beq_eq_false_iff_ne]
          intro e
          exact hn.1 (e ▸ List.mem_map.mpr ⟨q, hq', rfl⟩)
        rw [ne]
        exact ih hn.2 hq'
  rw [z]
  rfl
theorem sol_nil {σ : Sb} (h : (σ.map (·.1)).Nodup) : Sol σ [] := by
  obtain ⟨f, hf⟩ := fits_some h
  exact ⟨f, hf, fun q hq => by cases hq⟩
theorem solves_snoc {f : Str → Kd} {todo : List (Kd × Kd)} {p k : Kd} : Solves f (todo ++ [(p, k)]) ↔ Solves f todo ∧ p.sub f = k := by
  unfold Solves
  constructor
  · intro h
    exact ⟨fun q hq => h q (List.mem_append_left _ hq), h (p, k) (List.mem_append_right _ (List.mem_singleton.mpr rfl))⟩
  · rintro ⟨h1, h2⟩ q hq
    rcases List.mem_append.mp hq with hq | hq
    · exact h1 q hq
    · rw [List.mem_singleton.mp hq]
      exact h2
theorem solves_app {f : Str → Kd} {a b : List (Kd × Kd)} : Solves f (a ++ b) ↔ Solves f a ∧ Solves f b := by
  unfold Solves
  exact ⟨fun h => ⟨fun q hq => h q (List.mem_append_left _ hq), fun q hq => h q (List.mem_append_right _ hq)⟩, fun h q hq => (List.mem_append.mp hq).elim (h.1 q) (h.2 q)⟩
/-- the steps -/
theorem sol_there {σ : Sb} {todo : List (Kd × Kd)} {s : Str} {m k : Kd} (h : σ.lookup s = some m) (e : m = k) : Sol σ (todo ++ [(.nm s, k)]) ↔ Sol σ todo := by
  constructor
  · rintro ⟨f, h1, h2⟩
    exact ⟨f, h1, (solves_snoc.mp h2).1⟩
  · rintro ⟨f, h1, h2⟩
    exact ⟨f, h1, solves_snoc.mpr ⟨h2, by rw [Kd.sub, look_fits h h1, e]⟩⟩
theorem sol_clash {σ : Sb} {todo : List (Kd × Kd)} {s : Str} {m k : Kd} (h : σ.lookup s = some m) (e : m ≠ k) : ¬ Sol σ (todo ++ [(.nm s, k)]) := by
  rintro ⟨f, h1, h2⟩
  have z := (solves_snoc.mp h2).2
  rw [Kd.sub, look_fits h h1] at z
  exact e z
theorem sol_add {σ : Sb} {todo : List (Kd × Kd)} {s : Str} {k : Kd} : Sol σ (todo ++ [(.nm s, k)]) ↔ Sol (σ ++ [(s, k)]) todo := by
  constructor
  · rintro ⟨f, h1, h2⟩
    exact ⟨f, fits_add.mpr ⟨h1, by have z := (solves_snoc.mp h2).2; rwa [Kd.sub] at z⟩, (solves_snoc.mp h2).1⟩
  · rintro ⟨f, h1, h2⟩
    exact ⟨f, (fits_add.mp h1).1, solves_snoc.mpr ⟨h2, by rw [Kd.sub]; exact (fits_add.mp h1).2⟩⟩
theorem sol_no {σ : Sb} {todo : List (Kd × Kd)} {p k : Kd} (n : ∀ s, p ≠ .nm s) (h : p.alike k = false) : ¬ Sol σ (todo ++ [(p, k)]) := by
  rintro ⟨f, _, h2⟩
  exact Kd.alike_no f p k n h (solves_snoc.mp h2).2
theorem sol_yes {σ : Sb} {todo : List (Kd × Kd)} {p k : Kd} (n : ∀ s, p ≠ .nm s) (h : p.alike k = true) : Sol σ (todo ++ [(p, k)]) ↔ Sol σ (todo ++ p.parts.zip k.parts) := by
  constructor
  · rintro ⟨f, h1, h2⟩
    have z := solves_snoc.mp h2
    exact ⟨f, h1, solves_app.mpr ⟨z.1, (Kd.alike_yes f p k n h).2.mp z.2⟩⟩
  · rintro ⟨f, h1, h2⟩
    have z := solves_app.mp h2
    exact ⟨f, h1, solves_snoc.mpr ⟨z.1, (Kd.alike_yes f p k n h).2.mpr z.2⟩⟩
/-! ### a dict of what was found -/
section
variable {κ : Type} [DecidableEq κ]
def FoundAs (key : Str → κ) (H : Hp) : List (κ × V) → Sb → Prop
  | [], σ => σ = []
  | p :: kvs, σ => ∃ s m τ, σ = (s, m) :: τ ∧ p.1 = key s ∧ m.At H p.2 ∧ FoundAs key H kvs τ
theorem FoundAs.keep {key : Str → κ} {H H' : Hp} (t : TK H H') : ∀ {kvs : List (κ × V)} {σ : Sb}, FoundAs key H kvs σ → FoundAs key H' kvs σ
  | [], _, h => h
  | p :: kvs, _, ⟨s, m, τ, e, h1, h2, h3⟩ => ⟨s, m, τ, e, h1, h2.keep t, FoundAs.keep t h3⟩
theorem FoundAs.len {key : Str → κ} {H : Hp} : ∀ {kvs : List (κ × V)} {σ : Sb}, FoundAs key H kvs σ → kvs.length = σ.length
  | [], _, h => by
    have e : _ = [] := h
    rw [e]
    rfl
  | p :: kvs, _, ⟨s, m, τ, e, h1, h2, h3⟩ => by rw [e, List.length_cons, List.length_cons, FoundAs.len h3]
theorem FoundAs.look {key : Str → κ} (inj : ∀ s t, key s = key t → s = t) {H : Hp} (s : Str) : ∀ {kvs : List (κ × V)} {σ : Sb}, FoundAs key H kvs σ → (σ.lookup s = none ∧ valV kvs (key s) = none) ∨ ∃ m v, σ.lookup s = some m ∧ valV kvs (key s) = some v ∧ m.At H v
  | [], _, h => by
    have e : _ = [] := h
    subst e
    exact .inl ⟨rfl, rfl⟩
  | p :: kvs, _, ⟨t, m, τ, e, h1, h2, h3⟩ => by
    subst e
    by_cases z : s = t
    · subst z
      exact .inr ⟨m, p.2, by rw [List.lookup_cons, beq_self_eq_true], valV_pos h1, h2⟩
    · have ne : (s == t) = false := by rw [beq_eq_false_iff_ne]; exact z
      rw [List.lookup_cons, ne, valV_neg (fun q => z (inj _ _ (q.symm.trans h1)))]
      exact FoundAs.look inj s h3
theorem FoundAs.add {key : Str → κ} {H : Hp} {s : Str} {m : Kd} {v : V} (hm : m.At H v) : ∀ {kvs : List (κ × V)} {σ : Sb}, FoundAs key H kvs σ → FoundAs key H (kvs ++ [(key s, v)]) (σ ++ [(s, m)])
  | [], _, h => by
    have e : _ = [] := h
    subst e
    exact ⟨s, m, [], rfl, rfl, hm, rfl⟩
  | p :: kvs, _, ⟨t, n, τ, e, h1, h2, h3⟩ => ⟨t, n, τ ++ [(s, m)], by rw [e]; rfl, h1, h2, FoundAs.add hm h3⟩
end
end Toy

set_option Elab.async false
set_option linter.all false
set_option maxRecDepth 100000
set_option maxHeartbeats 4000000
/-! Part C: the program's defs over types. -/
namespace Toy
open PySem L2
open PyProof.Rows (envOfC)
def Kd.tag : Kd → Nat
  | .nm _ => 0
  | .mt _ => 1
  | .fn _ _ => 2
  | .cn _ _ => 3
theorem Kd.word_tag {k m : Kd} (h : k.word = m.word) : k.tag = m.tag := by
  have q : (k.word == m.word) = true := beq_iff_eq.mpr h
  cases k <;> cases m <;> first | rfl | (exfalso; first | exact absurd (q.symm.trans sne1) (by decide) | exact absurd (q.symm.trans sne2) (by decide) | exact absurd (q.symm.trans sne3) (by decide) | exact absurd (q.symm.trans sne4) (by decide) | exact absurd (q.symm.trans sne5) (by decide) | exact absurd (q.symm.trans sne6) (by decide) | exact absurd (q.symm.trans sne7) (by decide) | exact absurd (q.symm.trans sne8) (by decide) | exact absurd (q.symm.trans sne9) (by decide) | exact absurd (q.symm.trans sne10) (by decide) | exact absurd (q.symm.trans sne11) (by decide) | exact absurd (q.symm.trans sne12) (by decide))
theorem Kd.word_fun {k : Kd} (h : k.tag ≠ 2) : k.word ≠ "fun" := fun e => h (Kd.word_tag (m := .fn (.nm "a") (.nm "a")) e)
theorem Kd.alike_len {k m : Kd} (h : ¬ k.parts.length = m.parts.length) : k.alike m = false := by
  cases k <;> cases m <;> first | rfl | exact absurd rfl h | skip
  rename_i s l t n
  show (l.length == n.length && s == t) = false
  rw [show (l.length == n.length) = false from by rw [beq_eq_false_iff_ne]; exact h, Bool.false_and]
/-- a leaf: its second item -/
theorem Kd.At.leaf {H : Hp} {wd : Str} (hw : wd = "name" ∨ wd = "meta") {a : Addr} : ∀ {k : Kd}, k.At H (.ref a) → k.word = wd → ∃ key : Key, k.own wd = [key] ∧ H a = some (.tup [.str k.word, kV key])
  | .nm s, h, e => by
    obtain ⟨_, z, h⟩ := h
    cases z
    exact ⟨Sum.inr s, by rw [← e]; rfl, h⟩
  | .mt i, h, e => by
    obtain ⟨_, z, h⟩ := h
    cases z
    exact ⟨Sum.inl i, by rw [← e]; rfl, h⟩
  | .fn p q, _, e => by
    have e : (Kd.fn p q).word = wd := e
    rcases hw with w | w
    · exact absurd (Kd.word_tag (m := .nm "a") (e.trans w)) (by simp [Kd.tag])
    · exact absurd (Kd.word_tag (m := .mt 0) (e.trans w)) (by simp [Kd.tag])
  | .cn s l, _, e => by
    have e : (Kd.cn s l).word = wd := e
    rcases hw with w | w
    · exact absurd (Kd.word_tag (m := .nm "a") (e.trans w)) (by simp [Kd.tag])
    · exact absurd (Kd.word_tag (m := .mt 0) (e.trans w)) (by simp [Kd.tag])
theorem Kd.own_not {wd : Str} : ∀ {k : Kd}, k.word ≠ wd → k.own wd = []
  | .nm s, h => if_neg fun e => h e.symm
  | .mt i, h => if_neg fun e => h e.symm
  | .fn p q, _ => rfl
  | .cn s l, _ => rfl
theorem Kd.Ats.app {H : Hp} : ∀ {l m : List Kd} {xs ys : List V}, Kd.Ats H l xs → Kd.Ats H m ys → Kd.Ats H (l ++ m) (xs ++ ys)
  | [], _, _, _, h, k => by
    have e : _ = [] := h
    subst e
    exact k
  | p :: l, _, _, _, ⟨x, zs, e, h1, h2⟩, k => by
    subst e
    exact ⟨x, _, rfl, h1, Kd.Ats.app h2 k⟩
theorem own_len (k : Kd) (wd : Str) (ks : List Key) : (addAll ks (k.own wd)).length ≤ ks.length + 1 := by
  have one : ∀ (c : Prop) [Decidable c] (key : Key), (addAll ks (if c then [key] else [])).length ≤ ks.length + 1 := fun c _ key => by
    split
    · exact len_addK ks key
    · exact Nat.le_succ _
  cases k with
  | nm s => exact one _ _
  | mt i => exact one _ _
  | fn a b => exact Nat.le_succ _
  | cn s l => exact Nat.le_succ _
theorem Kd.sizes_len : ∀ l : List Kd, l.length ≤ Kd.sizes l
  | [] => Nat.le_refl _
  | k :: l => by
    have h1 := Kd.sizes_len l
    have h2 := Kd.size_parts k
    rw [Kd.sizes, List.length_cons]
    omega
theorem at0 (x : V) (l : List V) : atI (x :: l) 0 = some x := atI_nat (j := 0) rfl
theorem at1 (x y : V) (l : List V) : atI (x :: y :: l) 1 = some y := atI_nat (j := 1) rfl
structure TxtT (mg : Str → Option Value) : Prop where
  ztuple : mg "tuple" = none
  zlist : mg "list" = none
  zzip : mg "zip" = none
  zlen : mg "len" = none
theorem boot_tuple : bootBuiltins "tuple" = some (.type "tuple") := by decide +kernel
section
variable {P : Program} {w : World} {K : PySem.W.Frag} {mg : Str → Option Value} {base : Heap}
abbrev sParts : Stmt := topS 3
theorem scParts : FnScope ["kind"] ["kind"] (defScope sParts) := ⟨rfl, rfl, rfl, by decide +kernel, rfl, by decide +kernel, by decide +kernel⟩
def spParts (K : PySem.W.Frag) : Sp := fun vs H Q _ => ∃ (v : V) (k : Kd), vs = [v] ∧ k.At H v ∧ ∀ (b : Addr) (xs : List V) (H' : Hp), Same H H' → H' b = some (.tup xs) → Kd.Ats H' k.parts xs → Q (.ref b) H'
theorem c_parts {f : Addr} {fd : FuncData} (F : Fun K "kind_parts" "kind_parts" sParts f fd) (b : Binds K fd ["kind"] []) (hm : mg "kind_parts" = some (.ref f)) : C8.Cal P w K mg base 1 "kind_parts" (spParts K) [] := by
  refine cal_of F hm b scParts (fun vs H Q E h => ?_) (fun cdv A outer s H vs Q E hr h => ?_)
  · obtain ⟨v, k, rfl, _⟩ := h
    rfl
  obtain ⟨v, k, rfl, hd, q⟩ := h
  refine ⟨_, (pss_cons (ps_if (pt_cmpR op_eq (pe_ix ix_tup (pv 0) pe_int (fun _ _ => rfl)) pe_str (nomark _))
      (pss_one (ps_ret (pe_ix ix_tup (pv 0) pe_int (fun _ _ => rfl))))
      pss_nil)
    (pss_cons (ps_if (pt_cmpR op_eq (pe_ix ix_tup (pv 0) pe_int (fun _ _ => rfl)) pe_str (nomark _))
      (pss_one (ps_ret (pe_slice sl_tupA (pv 0) (po_some pe_int) po_none)))
      pss_nil)
    (pss_one (ps_ret (pe_tup pa_nil))))), ?_⟩
  have e1 : decide (V.str ("name" : Str) = V.str "con") = false := by decide +kernel
  have e2 : decide (V.str ("name" : Str) = V.str "fun") = false := by decide +kernel
  have e3 : decide (V.str ("meta" : Str) = V.str "con") = false := by decide +kernel
  have e4 : decide (V.str ("meta" : Str) = V.str "fun") = false := by decide +kernel
  have e5 : decide (V.str ("fun" : Str) = V.str "con") = false := by decide +kernel
  have e6 : decide (V.str ("fun" : Str) = V.str "fun") = true := by decide +kernel
  have e7 : decide (V.str ("con" : Str) = V.str "con") = true := by decide +kernel
  cases k with
  | nm s =>
    obtain ⟨a, rfl, hs⟩ := hd
    refine ⟨_, rfl, a, _, 0, _, rfl, rfl, SqT.of hs, rfl, rfl, _, rfl, ?_⟩
    rw [e1]
    refine iteF ?_
    refine ⟨_, rfl, a, _, 0, _, rfl, rfl, SqT.of hs, rfl, rfl, _, rfl, ?_⟩
    rw [e2]
    refine iteF ?_
    exact ⟨(by show 0 ≤ sizeLine; decide), fun t ht => q t [] _ (same_new ht _) upd_same rfl⟩
  | mt i =>
    obtain ⟨a, rfl, hs⟩ := hd
    refine ⟨_, rfl, a, _, 0, _, rfl, rfl, SqT.of hs, rfl, rfl, _, rfl, ?_⟩
    rw [e3]
    refine iteF ?_
    refine ⟨_, rfl, a, _, 0, _, rfl, rfl, SqT.of hs, rfl, rfl, _, rfl, ?_⟩
    rw [e4]
    refine iteF ?_
    exact ⟨(by show 0 ≤ sizeLine; decide), fun t ht => q t [] _ (same_new ht _) upd_same rfl⟩
  | fn m n =>
    obtain ⟨a, x, y, rfl, hs, hx, hy⟩ := hd
    refine ⟨_, rfl, a, _, 0, _, rfl, rfl, SqT.of hs, rfl, rfl, _, rfl, ?_⟩
    rw [e5]
    refine iteF ?_
    refine ⟨_, rfl, a, _, 0, _, rfl, rfl, SqT.of hs, rfl, rfl, _, rfl, ?_⟩
    rw [e6]
    refine iteT ?_
    refine ⟨_, rfl, 1, rfl, a, _, rfl, SqT.of hs, fun z => ?_, fun _ t ht => ?_⟩
    · exact absurd z.1 (by show ¬ HT.sIx 3 0 (some 1) = 0; decide)
    · have s1 : TK H (upd H t (.tup [x, y])) := tk_new ht
      exact q t [x, y] _ (same_new ht _) upd_same ⟨x, [y], rfl, hx.keep s1, y, [], rfl, hy.keep s1, rfl⟩
  | cn s l =>
    obtain ⟨a, b2, xs, rfl, hs, hb, hr2⟩ := hd
    refine ⟨_, rfl, a, _, 0, _, rfl, rfl, SqT.of hs, rfl, rfl, _, rfl, ?_⟩
    rw [e7]
    refine iteT ?_
    exact ⟨_, rfl, a, _, 2, _, rfl, rfl, SqT.of hs, rfl, q b2 xs H (fun _ _ h => h) hb hr2⟩
abbrev sAlike : Stmt := topS 5
theorem scAlike : FnScope ["one", "other"] ["one", "other"] (defScope sAlike) := ⟨rfl, rfl, rfl, by decide +kernel, rfl, by decide +kernel, by decide +kernel⟩
def spAlike : Sp := fun vs H Q _ => ∃ (v u : V) (k m : Kd), vs = [v, u] ∧ k.At H v ∧ m.At H u ∧ ∀ (H' : Hp), Same H H' → Q (.bl (k.alike m)) H'
theorem c_alike {f : Addr} {fd : FuncData} (T : TxtT mg) (ckind_parts : C8.Cal P w K mg base 1 "kind_parts" (spParts K) []) (F : Fun K "alike" "alike" sAlike f fd) (b : Binds K fd ["one", "other"] []) (hm : mg "alike" = some (.ref f)) : C8.Cal P w K mg base 2 "alike" spAlike [] := by
  refine cal_of F hm b scAlike (fun vs H Q E h => ?_) (fun cdv A outer s H vs Q E hr h => ?_)
  · obtain ⟨v, u, k, m, rfl, _⟩ := h
    rfl
  obtain ⟨v, u, k, m, rfl, hv, hu, q⟩ := h
  refine ⟨_, (pss_cons (ps_if (PW.pt (pw_or (pt_cmpR op_ne (pe_ix ix_tup (pv 0) pe_int (fun _ _ => rfl)) (pe_ix ix_tup (pv 1) pe_int (fun _ _ => rfl)) (nomark _)) (pw_or1 (pt_cmpR op_ne (pe_callB call_len_seq rfl T.zlen PySem.boot_len (pa_cons (C8.pe_c ckind_parts hr (by decide) rfl (pa_cons (pv 0) pa_nil)) pa_nil)) (pe_callB call_len_seq rfl T.zlen PySem.boot_len (pa_cons (C8.pe_c ckind_parts hr (by decide) rfl (pa_cons (pv 1) pa_nil)) pa_nil)) (nomark _)))))
      (pss_one (ps_ret pe_bl))
      pss_nil)
    (pss_one (ps_ret (pe_or (pe_cmpR op_eq (pe_ix ix_tup (pv 0) pe_int (fun _ _ => rfl)) pe_str (nomark _)) (pe_one (pe_cmpR op_eq (pe_ix ix_tup (pv 0) pe_int (fun _ _ => rfl)) (pe_ix ix_tup (pv 1) pe_int (fun _ _ => rfl)) (nomark _))))))), ?_⟩
  obtain ⟨a, xs, rfl, ha⟩ := hv.tup
  obtain ⟨c, ys, rfl, hc⟩ := hu.tup
  refine ⟨_, rfl, a, _, 0, .str k.word, rfl, rfl, SqT.of ha, at0 _ _, _, rfl, c, _, 0, .str m.word, rfl, rfl, SqT.of hc, at0 _ _, rfl, _, rfl, ?_⟩
  by_cases hw : k.word = m.word
  · have z : (!decide (V.str k.word = V.str m.word)) = false := by rw [hw]; simp
    show if (!decide (V.str k.word = V.str m.word)) = true then _ else _
    rw [z]
    refine iteF ?_
    refine ⟨_, rfl, _, k, rfl, hv, fun b1 xs1 H1 s1 hb1 ats1 => ?_⟩
    refine ⟨b1, xs1, rfl, .inr (SqT.of hb1), ?_⟩
    refine ⟨_, rfl, _, m, rfl, hu.keep (tk_same s1), fun b2 xs2 H2 s2 hb2 ats2 => ?_⟩
    refine ⟨b2, xs2, rfl, .inr (SqT.of hb2), ?_⟩
    have s3 : Same H H2 := fun b o e => s2 _ _ (s1 _ _ e)
    refine ⟨rfl, _, rfl, ?_⟩
    have z2 : (!decide (V.int (xs1.length : Int) = V.int (xs2.length : Int))) = !decide (k.parts.length = m.parts.length) := by
      rw [dec_int, ats1.len, ats2.len]
      congr 1
      rw [Bool.eq_iff_iff, beq_iff_eq, decide_eq_true_eq]
      omega
    show if (!decide (V.int (xs1.length : Int) = V.int (xs2.length : Int))) = true then _ else _
    rw [z2]
    by_cases hl : k.parts.length = m.parts.length
    · have z3 : (!decide (k.parts.length = m.parts.length)) = false := by rw [hl]; simp
      rw [z3]
      refine iteF ?_
      refine ⟨_, rfl, a, _, 0, .str k.word, rfl, rfl, SqT.of (s3 _ _ ha), at0 _ _, rfl, _, rfl, ?_⟩
      have last : ∀ (k m : Kd), k.word = m.word → k.parts.length = m.parts.length → k.At H (.ref a) → m.At H (.ref c) → (k.word = "fun" ∧ k.alike m = true) ∨ (k.word ≠ "fun" ∧ ∃ (x y : V), atI [x] 0 = some x ∧ (∃ r, H a = some (.tup (.str k.word :: x :: r))) ∧ (∃ r, H c = some (.tup (.str m.word :: y :: r))) ∧ scal x y = true ∧ decide (x = y) = k.alike m) := fun k m hw hl hk hm => by
        cases k with
        | nm s =>
          cases m with
          | nm t =>
            obtain ⟨_, e1, h1⟩ := hk
            cases e1
            obtain ⟨_, e2, h2⟩ := hm
            cases e2
            refine .inr ⟨Kd.word_fun (by simp [Kd.tag]), .str s, .str t, rfl, ⟨_, h1⟩, ⟨_, h2⟩, rfl, ?_⟩
            show _ = (s == t)
            rw [Bool.eq_iff_iff, beq_iff_eq, decide_eq_true_eq]
            exact ⟨fun e => by cases e; rfl, fun e => by rw [e]⟩
          | _ => exact absurd (Kd.word_tag hw) (by simp [Kd.tag])
        | mt i =>
          cases m with
          | mt j =>
            obtain ⟨_, e1, h1⟩ := hk
            cases e1
            obtain ⟨_, e2, h2⟩ := hm
            cases e2
            exact .inr ⟨Kd.word_fun (by simp [Kd.tag]), .int i, .int j, rfl, ⟨_, h1⟩, ⟨_, h2⟩, rfl, dec_int⟩
          | _ => exact absurd (Kd.word_tag hw) (by simp [Kd.tag])
        | fn p q =>
          cases m with
          | fn p2 q2 => exact .inl ⟨rfl, rfl⟩
          | _ => exact absurd (Kd.word_tag hw) (by simp [Kd.tag])
        | cn s l =>
          cases m with
          | cn t n =>
            obtain ⟨_, _, _, e1, h1, _⟩ := hk
            cases e1
            obtain ⟨_, _, _, e2, h2, _⟩ := hm
            cases e2
            refine .inr ⟨Kd.word_fun (by simp [Kd.tag]), .str s, .str t, rfl, ⟨_, h1⟩, ⟨_, h2⟩, rfl, ?_⟩
            show _ = (l.length == n.length && s == t)
            rw [show (l.length == n.length) = true from by rw [beq_iff_eq]; exact hl, Bool.true_and, Bool.eq_iff_iff, beq_iff_eq, decide_eq_true_eq]
            exact ⟨fun e => by cases e; rfl, fun e => by rw [e]⟩
          | _ => exact absurd (Kd.word_tag hw) (by simp [Kd.tag])
      rcases last k m hw hl hv hu with ⟨e1, e2⟩ | ⟨e1, x, y, _, ⟨r1, h1⟩, ⟨r2, h2⟩, e3, e4⟩
      · have z4 : decide (V.str k.word = V.str "fun") = true := by rw [e1]; exact decide_eq_true rfl
        show if decide (V.str k.word = V.str "fun") = true then _ else _
        rw [z4]
        refine iteT ?_
        rw [← e2]
        exact q H2 s3
      · have z4 : decide (V.str k.word = V.str "fun") = false := decide_eq_false (fun z => e1 (V.str.inj z))
        show if decide (V.str k.word = V.str "fun") = true then _ else _
        rw [z4]
        refine iteF ?_
        refine ⟨_, rfl, a, _, 1, x, rfl, rfl, SqT.of (s3 _ _ h1), at1 _ _ _, _, rfl, c, _, 1, y, rfl, rfl, SqT.of (s3 _ _ h2), at1 _ _ _, e3, ?_⟩
        show Q (.bl (decide (x = y))) H2
        rw [e4]
        exact q H2 s3
    · have z3 : (!decide (k.parts.length = m.parts.length)) = true := by rw [decide_eq_false hl]; rfl
      rw [z3]
      refine iteT ?_
      have no : k.alike m = false := Kd.alike_len hl
      show Q (.bl false) H2
      rw [← no]
      exact q H2 s3
  · have z : (!decide (V.str k.word = V.str m.word)) = true := by
      rw [decide_eq_false (fun e => hw (V.str.inj e))]
      rfl
    show if (!decide (V.str k.word = V.str m.word)) = true then _ else _
    rw [z]
    refine iteT (iteT ?_)
    show Q (.bl false) H
    rw [← Kd.alike_word (show (k.word == m.word) = false from beq_eq_false_iff_ne.mpr hw)]
    exact q H fun _ _ e => e
abbrev sLeaves : Stmt := topS 2
theorem scLeaves : FnScope ["kind", "word", "found", "todo", "part"] ["kind", "word"] (defScope sLeaves) := ⟨rfl, rfl, rfl, by decide +kernel, rfl, by decide +kernel, by decide +kernel⟩
def spLeaves (K : PySem.W.Frag) : Sp := fun vs H Q _ => ∃ (v : V) (k : Kd) (wd : Str), vs = [v, .str wd] ∧ (wd = "name" ∨ wd = "meta") ∧ k.At H v ∧ k.size ≤ 100000 ∧ ∀ (b : Addr) (H' : Hp), Same H H' → H' b = some (.tup ((addAll [] (k.lv wd)).map kV)) → Q (.ref b) H'
theorem c_leaves {f : Addr} {fd : FuncData} (T : TxtT mg) (ckind_parts : C8.Cal P w K mg base 1 "kind_parts" (spParts K) []) (F : Fun K "_leaves" "_leaves" sLeaves f fd) (b : Binds K fd ["kind", "word"] []) (hm : mg "_leaves" = some (.ref f)) : C8.Cal P w K mg base 2 "_leaves" (spLeaves K) [] := by
  refine cal_of F hm b scLeaves (fun vs H Q E h => ?_) (fun cdv A outer s H vs Q E hr h => ?_)
  · obtain ⟨v, k, wd, rfl, _⟩ := h
    rfl
  obtain ⟨v, k, wd, rfl, hw, hd, hsz, q⟩ := h
  have hu := hu_of hr
  refine ⟨_, (pss_cons (ps_set (i := 2) scLeaves.nd rfl (Or.inl rfl) pe_dnewK)
    (pss_cons (ps_set (i := 3) scLeaves.nd rfl (Or.inl rfl) (pe_lst (pa_cons (pv 0) pa_nil)))
    (pss_cons (ps_while PassesOwn.never (pt_truth (pv 3) (fun _ => rfl))
      (pss_cons (ps_set (i := 4) scLeaves.nd rfl (Or.inl rfl) (pe_bm0 PySem.F.plainAttrs_list PySem.F.slot_list_pop PySem.F.type_list_pop mt_pop (pv 3)))
    (C8.pss_cut (ps_if (pt_cmpR op_eq (pe_ix ix_tup (pv 4) pe_int (fun _ _ => rfl)) (pv 1) (nomark _))
      (pss_one (ps_dput hu (pv 2) (pe_ix ix_tup (pv 4) pe_int (fun _ _ => rfl)) pe_bl rfl))
      pss_nil)
    (pss_one (ps_expr (pe_bm PySem.F.plainAttrs_list PySem.F.slot_list_extend PySem.F.type_list_extend mt_extendT (pv 3) (pa_cons (pe_rev (C8.pe_c ckind_parts hr (by decide) rfl (pa_cons (pv 4) pa_nil)) (pe_un un_neg pe_int) (fun _ _ => by with_unfolding_all rfl)) pa_nil)))))))
    (pss_one (ps_ret (pe_callTy (call_tupleD rfl) rfl T.ztuple boot_tuple (pa_cons (pv 2) pa_nil))))))), ?_⟩
  intro fd0 hfd0
  refine ⟨_, rfl, by show 1 ≤ sizeLine; decide, fun td htd => ?_⟩
  have nft : fd0 ≠ td := ne_of_none (H := upd H fd0 (.dK [])) upd_same htd
  have htd0 : H td = none := by rw [upd_ne nft.symm] at htd; exact htd
  refine ⟨fun n σ H2 => ∃ (pt : Option V) (ks : List Key) (st : List V) (kl : List Kd), n = Kd.sizes kl ∧ σ = [some v, some (.str wd), some (.ref fd0), some (.ref td), pt] ∧ Same H H2 ∧ H2 fd0 = some (.dK (setOf ks)) ∧ H2 td = some (.lst st) ∧ Kd.Ats H2 kl st.reverse ∧ ks.length + Kd.sizes kl ≤ k.size ∧ addAll ks (Kd.lvs wd kl) = addAll [] (k.lv wd), ⟨_, none, [], [v], [k], rfl, rfl, same_upd htd0 (same_new hfd0 _) _, ?_, upd_same, ?_, ?_, ?_⟩, ?_⟩
  · rw [upd_ne nft, upd_same]
    rfl
  · exact ⟨v, [], rfl, hd.keep ((tk_new hfd0).trans (tk_new htd)), rfl⟩
  · rw [Kd.sizes, Kd.sizes]
    show 0 + _ ≤ _
    omega
  · rw [Kd.lvs, Kd.lvs, List.append_nil]
  · rintro n σ H2 ⟨pt, ks, st, kl, rfl, rfl, s2, hf2, ht2, hat, hlen, hall⟩
    refine ⟨_, rfl, _, .inl ⟨st, SqL.of ht2, rfl⟩, ?_⟩
    cases kl with
    | nil =>
      have e : st = [] := List.reverse_eq_nil_iff.mp hat
      subst e
      refine iteF ?_
      refine ⟨_, rfl, fd0, _, rfl, .inl hf2, fun p hp => ?_⟩
      refine q p _ (same_upd (s2.free hp) s2 _) ?_
      rw [upd_same, ← hall]
      show some (HO.tup ((setOf ks).map fun kv => kV kv.1)) = some (HO.tup ((addAll ks []).map kV))
      rw [setOf, List.map_map]
      rfl
    | cons k0 kl =>
      obtain ⟨x, ys, ex, hx, hys⟩ := hat
      have est : st = ys.reverse ++ [x] := by rw [← List.reverse_reverse st, ex, List.reverse_cons]
      subst est
      have ne : (!(ys.reverse ++ [x]).isEmpty) = true := by cases ys.reverse <;> rfl
      rw [ne]
      refine iteT ?_
      refine ⟨fun σ' H' => ∃ (pt : Option V) (ks' : List Key) (st' : List V) (kl' : List Kd), Kd.sizes kl' < Kd.sizes (k0 :: kl) ∧ σ' = [some v, some (.str wd), some (.ref fd0), some (.ref td), pt] ∧ Same H H' ∧ H' fd0 = some (.dK (setOf ks')) ∧ H' td = some (.lst st') ∧ Kd.Ats H' kl' st'.reverse ∧ ks'.length + Kd.sizes kl' ≤ k.size ∧ addAll ks' (Kd.lvs wd kl') = addAll [] (k.lv wd),
        fun σ' H' ⟨pt, ks', st', kl', lt, rest⟩ => ⟨_, lt, pt, ks', st', kl', rfl, rest⟩, ?_⟩
      refine ⟨_, rfl, .inl ⟨rfl, _, SqL.of ht2⟩, td, _, x, rfl, rfl, ht2, by simp, ?_⟩
      rw [List.dropLast_concat]
      have ht3 : upd H2 td (.lst ys.reverse) td = some (.lst ys.reverse) := upd_same
      have hf3 : upd H2 td (.lst ys.reverse) fd0 = some (.dK (setOf ks)) := by rw [upd_ne nft]; exact hf2
      have s3 : Same H (upd H2 td (.lst ys.reverse)) := same_upd htd0 s2 _
      have t3 : TK H2 (upd H2 td (.lst ys.reverse)) := tk_list ht2
      generalize upd H2 td (.lst ys.reverse) = H3 at ht3 hf3 s3 t3
      have hx3 := hx.keep t3
      have hys3 := hys.keep t3
      obtain ⟨a, r, rfl, ha⟩ := hx3.tup
      refine ⟨fun σ' H4 => ∃ ks', σ' = [some v, some (.str wd), some (.ref fd0), some (.ref td), some (.ref a)] ∧ Same H H4 ∧ TK H3 H4 ∧ H4 fd0 = some (.dK (setOf ks')) ∧ H4 td = some (.lst ys.reverse) ∧ ks' = addAll ks (k0.own wd), ?_, ?_⟩
      · refine ⟨_, rfl, a, _, 0, .str k0.word, rfl, rfl, SqT.of ha, at0 _ _, _, rfl, rfl, _, rfl, ?_⟩
        by_cases hwd : k0.word = wd
        · have z : decide (V.str k0.word = V.str wd) = true := by rw [hwd]; exact decide_eq_true rfl
          show if decide (V.str k0.word = V.str wd) = true then _ else _
          rw [z]
          refine iteT ?_
          obtain ⟨key, eo, hl⟩ := Kd.At.leaf hw hx3 hwd
          refine ⟨_, rfl, _, rfl, a, _, 1, kV key, rfl, rfl, SqT.of hl, at1 _ _ _, fd0, _, rfl, DPut.k (k := key) hf3 ?_, ?_⟩
          · rw [setOf, List.length_map]
            exact szl (by omega)
          · refine ⟨addK ks key, rfl, same_upd hfd0 s3 _, tk_dict hf3, ?_, ?_, ?_⟩
            · rw [upd_same, put_set]
            · rw [upd_ne nft.symm]
              exact ht3
            · rw [eo]
              rfl
        · have z : decide (V.str k0.word = V.str wd) = false := decide_eq_false (fun e => hwd (V.str.inj e))
          show if decide (V.str k0.word = V.str wd) = true then _ else _
          rw [z]
          refine iteF ?_
          exact ⟨ks, rfl, s3, TK.refl _, hf3, ht3, by rw [Kd.own_not hwd]; rfl⟩
      · rintro σ' H4 ⟨ks', rfl, s4, t4, hf4, ht4, eks⟩
        refine ⟨_, rfl, .inl ⟨rfl, _, SqL.of ht4⟩, _, rfl, _, k0, rfl, hx3.keep t4, fun b1 xs1 H5 s5 hb1 ats1 => ?_⟩
        refine ⟨_, rfl, rfl, b1, xs1, rfl, SqT.of hb1, fun p hp => ?_⟩
        have t5 : TK H4 H5 := tk_same s5
        have npt : td ≠ p := ne_of_none (s5 _ _ ht4) hp
        have npf : fd0 ≠ p := ne_of_none (s5 _ _ hf4) hp
        refine ⟨td, p, ys.reverse, xs1.reverse, rfl, rfl, by rw [upd_ne npt]; exact s5 _ _ ht4, SqT.of upd_same, ?_, ?_⟩
        · rw [List.length_reverse, List.length_reverse, hys3.len, ats1.len]
          have q1 := Kd.sizes_len kl
          have q2 := Kd.sizes_len k0.parts
          have q3 := Kd.size_parts k0
          rw [Kd.sizes] at hlen
          exact Nat.le_of_lt (szl (by omega))
        · have t6 : TK H5 (upd H5 p (.tup xs1.reverse)) := tk_new hp
          have ht6 : upd H5 p (.tup xs1.reverse) td = some (.lst ys.reverse) := by rw [upd_ne npt]; exact s5 _ _ ht4
          have hf6 : upd H5 p (.tup xs1.reverse) fd0 = some (.dK (setOf ks')) := by rw [upd_ne npf]; exact s5 _ _ hf4
          have s45 : Same H H5 := fun b o e => s5 _ _ (s4 b o e)
          have s6 : Same H (upd H5 p (.tup xs1.reverse)) := same_upd (s45.free hp) s45 _
          generalize upd H5 p (.tup xs1.reverse) = H6 at t6 ht6 hf6 s6
          refine ⟨_, ks', ys.reverse ++ xs1.reverse, k0.parts ++ kl, ?_, rfl, same_upd htd0 s6 _, ?_, upd_same, ?_, ?_, ?_⟩
          · rw [Kd.sizes_app, Kd.sizes, ← Kd.size_parts k0]
            omega
          · rw [upd_ne nft]
            exact hf6
          · rw [List.reverse_append, List.reverse_reverse, List.reverse_reverse]
            have t7 := tk_list (o := .lst (ys.reverse ++ xs1.reverse)) ht6
            exact Kd.Ats.app (ats1.keep (t6.trans t7)) (hys3.keep (t4.trans (t5.trans (t6.trans t7))))
          · have := own_len k0 wd ks
            rw [← eks] at this
            rw [Kd.sizes_app]
            rw [Kd.sizes, ← Kd.size_parts k0] at hlen
            omega
          · rw [← hall, Kd.walk_step, eks]
end
end Toy

set_option Elab.async false
set_option linter.all false
set_option maxRecDepth 100000
set_option maxHeartbeats 4000000
/-! Part D: variables_of, instance_of. -/
namespace Toy
open PySem L2
open PyProof.Rows (envOfC)
/-- a type whose texts may be compared, not too deep -/
def Gd (k : Kd) : Prop := k.lay = true ∧ k.dep ≤ 30
theorem lays_mem : ∀ {l : List Kd} {c : Kd}, Kd.lays l = true → c ∈ l → c.lay = true
  | k :: l, c, h, hc => by
    have h : (k.lay && Kd.lays l) = true := h
    rw [Bool.and_eq_true] at h
    rcases List.mem_cons.mp hc with e | e
    · rw [e]; exact h.1
    · exact lays_mem h.2 e
theorem deps_mem : ∀ {l : List Kd} {c : Kd}, c ∈ l → c.dep ≤ Kd.deps l
  | k :: l, c, hc => by
    rw [Kd.deps]
    rcases List.mem_cons.mp hc with e | e
    · rw [e]; omega
    · have := deps_mem e
      omega
theorem lvs_mem {w : Str} {x : Key} : ∀ {l : List Kd} {c : Kd}, c ∈ l → x ∈ c.lv w → x ∈ Kd.lvs w l
  | k :: l, c, hc, hx => by
    rw [Kd.lvs, List.mem_append]
    rcases List.mem_cons.mp hc with e | e
    · rw [← e]; exact .inl hx
    · exact .inr (lvs_mem e hx)
theorem Kd.dep_part : ∀ {k c : Kd}, c ∈ k.parts → c.dep < k.dep
  | .nm s, c, h => by cases h
  | .mt i, c, h => by cases h
  | .fn a b, c, h => by
    rw [Kd.dep]
    rcases List.mem_cons.mp h with e | e
    · rw [e]; omega
    · rw [List.mem_singleton.mp e]; omega
  | .cn s l, c, h => by
    rw [Kd.dep]
    have := deps_mem (show c ∈ l from h)
    omega
theorem Kd.lay_part : ∀ {k c : Kd}, c ∈ k.parts → k.lay = true → c.lay = true
  | .nm s, c, h, _ => by cases h
  | .mt i, c, h, _ => by cases h
  | .fn a b, c, h, hl => by
    have hl : (a.lay && b.lay) = true := hl
    rw [Bool.and_eq_true] at hl
    rcases List.mem_cons.mp h with e | e
    · rw [e]; exact hl.1
    · rw [List.mem_singleton.mp e]; exact hl.2
  | .cn s l, c, h, hl => by
    have hl : (PyData.strOk s && Kd.lays l) = true := hl
    rw [Bool.and_eq_true] at hl
    exact lays_mem hl.2 h
theorem Gd.part {k c : Kd} (h : Gd k) (hc : c ∈ k.parts) : Gd c := ⟨Kd.lay_part hc h.1, by have := Kd.dep_part hc; have := h.2; omega⟩
theorem Gd.shaped {k : Kd} (h : Gd k) : SeqAt.shaped k.D = true := Kd.shaped h.1 h.2
theorem Kd.lv_part {w : Str} {x : Key} {k c : Kd} (hc : c ∈ k.parts) (h : x ∈ c.lv w) : x ∈ k.lv w := by
  rw [Kd.lv_own w k, List.mem_append]
  exact .inr (lvs_mem hc h)
/-- pairs of types stand at these addresses -/
def PairsAt (H : Hp) : List Addr → List (Kd × Kd) → Prop
  | [], L => L = []
  | a :: st, L => ∃ p k x y M, L = (p, k) :: M ∧ H a = some (.tup [x, y]) ∧ p.At H x ∧ k.At H y ∧ PairsAt H st M
theorem PairsAt.keep {H H' : Hp} (t : TK H H') : ∀ {st : List Addr} {L : List (Kd × Kd)}, PairsAt H st L → PairsAt H' st L
  | [], _, h => h
  | a :: st, _, ⟨p, k, x, y, M, e, h1, h2, h3, h4⟩ => ⟨p, k, x, y, M, e, t _ _ h1, h2.keep t, h3.keep t, h4.keep t⟩
theorem PairsAt.len {H : Hp} : ∀ {st : List Addr} {L : List (Kd × Kd)}, PairsAt H st L → st.length = L.length
  | [], _, h => by
    have e : _ = [] := h
    rw [e]
    rfl
  | a :: st, _, ⟨p, k, x, y, M, e, h1, h2, h3, h4⟩ => by rw [e, List.length_cons, List.length_cons, h4.len]
theorem PairsAt.app {H : Hp} : ∀ {st su : List Addr} {L M : List (Kd × Kd)}, PairsAt H st L → PairsAt H su M → PairsAt H (st ++ su) (L ++ M)
  | [], _, _, _, h, k => by
    have e : _ = [] := h
    subst e
    exact k
  | a :: st, _, _, _, ⟨p, k, x, y, M, e, h1, h2, h3, h4⟩, h => by
    subst e
    exact ⟨p, k, x, y, _, rfl, h1, h2, h3, h4.app h⟩
theorem PairsAt.snoc {H : Hp} {a : Addr} : ∀ {st : List Addr} {L : List (Kd × Kd)}, PairsAt H (st ++ [a]) L → ∃ M p k x y, L = M ++ [(p, k)] ∧ PairsAt H st M ∧ H a = some (.tup [x, y]) ∧ p.At H x ∧ k.At H y
  | [], _, ⟨p, k, x, y, M, e, h1, h2, h3, h4⟩ => by
    have z : M = [] := h4
    subst z
    exact ⟨[], p, k, x, y, e, rfl, h1, h2, h3⟩
  | b :: st, _, ⟨p, k, x, y, M, e, h1, h2, h3, h4⟩ => by
    obtain ⟨M2, p2, k2, x2, y2, e2, g1, g2, g3, g4⟩ := PairsAt.snoc h4
    subst e2
    exact ⟨(p, k) :: M2, p2, k2, x2, y2, e, ⟨p, k, x, y, M2, rfl, h1, h2, h3, g1⟩, g2, g3, g4⟩
theorem PairsAt.zip {H : Hp} : ∀ {bs : List Addr} {l m : List Kd} {xs ys : List V}, Kd.Ats H l xs → Kd.Ats H m ys → bs.length = xs.length → xs.length = ys.length →
    (∀ (j : Nat) (t : Addr), bs[j]? = some t → ∃ x y, xs[j]? = some x ∧ ys[j]? = some y ∧ H t = some (.tup [x, y])) → PairsAt H bs (l.zip m)
  | [], l, m, xs, ys, h1, h2, e1, e2, _ => by
    have z1 := h1.len
    have e1 : 0 = xs.length := e1
    have z : l = [] := List.length_eq_zero_iff.mp (by omega)
    subst z
    rfl
  | b :: bs, [], m, xs, ys, h1, h2, e1, e2, _ => by
    have z : xs = [] := h1
    subst z
    cases e1
  | b :: bs, k :: l, [], xs, ys, h1, h2, e1, e2, _ => by
    have z : ys = [] := h2
    subst z
    rw [e2] at e1
    cases e1
  | b :: bs, k :: l, n :: m, xs, ys, ⟨x, xs', ex, hx, hxs⟩, ⟨y, ys', ey, hy, hys⟩, e1, e2, h => by
    subst ex ey
    obtain ⟨x0, y0, g1, g2, g3⟩ := h 0 b rfl
    have g1 : x = x0 := Option.some.inj g1
    have g2 : y = y0 := Option.some.inj g2
    subst g1 g2
    exact ⟨k, n, x, y, l.zip m, rfl, g3, hx, hy, PairsAt.zip hxs hys (Nat.succ.inj e1) (Nat.succ.inj e2) fun j t ht => h (j + 1) t ht⟩
theorem sizes_zip : ∀ l m : List Kd, Kd.sizes ((l.zip m).map (·.1)) ≤ Kd.sizes l
  | [], m => by
    rw [List.zip_nil_left]
    exact Nat.le_refl _
  | k :: l, [] => by
    rw [List.zip_nil_right]
    exact Nat.zero_le _
  | k :: l, n :: m => by
    rw [List.zip_cons_cons, List.map_cons, Kd.sizes, Kd.sizes]
    have := sizes_zip l m
    show k.size + _ ≤ _
    omega
theorem sizes_ge : ∀ l : List (Kd × Kd), l.length ≤ Kd.sizes (l.map (·.1)) := fun l => by
  have := Kd.sizes_len (l.map (·.1))
  rwa [List.length_map] at this
theorem inj_inr : ∀ s t : Str, (Sum.inr s : Key) = Sum.inr t → s = t := fun _ _ e => Sum.inr.inj e
theorem flat_strs : ∀ ns : List Str, (ns.map V.str).all flatV = true
  | [] => rfl
  | n :: ns => by rw [List.map_cons, List.all_cons, flat_strs ns]; rfl
theorem in_strs {s : Str} {ns : List Str} (h : s ∈ ns) : inV (.str s) (ns.map V.str) = true := by
  unfold inV
  rw [List.any_eq_true]
  exact ⟨.str s, List.mem_map.mpr ⟨s, h, rfl⟩, by show (s == s) = true; exact beq_self_eq_true s⟩
theorem mem_of_look : ∀ {σ : Sb} {s : Str} {k : Kd}, σ.lookup s = some k → (s, k) ∈ σ
  | [], _, _, h => by cases h
  | (t, m) :: σ, s, k, h => by
    rw [List.lookup_cons] at h
    split at h
    · rename_i e
      have e : s = t := by simpa using e
      cases h
      subst e
      exact List.mem_cons_self ..
    · exact List.mem_cons_of_mem _ (mem_of_look h)
section
variable {P : Program} {w : World} {K : PySem.W.Frag} {mg : Str → Option Value} {base : Heap}
abbrev sVars : Stmt := topS 1
theorem scVars : FnScope ["kind"] ["kind"] (defScope sVars) := ⟨rfl, rfl, rfl, by decide +kernel, rfl, by decide +kernel, by decide +kernel⟩
def spVars : Sp := fun vs H Q _ => ∃ (v : V) (k : Kd), vs = [v] ∧ k.At H v ∧ k.size ≤ 100000 ∧ ∀ (b : Addr) (ns : List Str) (H' : Hp), Same H H' → H' b = some (.tup (ns.map V.str)) → (∀ s, Sum.inr s ∈ k.lv "name" → s ∈ ns) → Q (.ref b) H'
theorem own_names (k : Kd) : ∀ x ∈ k.own "name", ∃ s, x = Sum.inr s := by
  intro x hx
  cases k with
  | nm s => exact ⟨s, by simpa [Kd.own] using hx⟩
  | mt i =>
    have e : (Kd.mt i).own "name" = [] := by
      show (if ("name" : Str) = "meta" then [Sum.inl i] else []) = ([] : List Key)
      exact if_neg (by decide +kernel)
    rw [e] at hx
    cases hx
  | fn a b => cases hx
  | cn s l => cases hx
mutual
theorem lv_names : ∀ (k : Kd), ∀ x ∈ k.lv "name", ∃ s, x = Sum.inr s
  | .nm s, x, h => own_names (.nm s) x h
  | .mt i, x, h => own_names (.mt i) x h
  | .fn a b, x, h => (List.mem_append.mp h).elim (lv_names a x) (lv_names b x)
  | .cn s l, x, h => lvs_names l x h
theorem lvs_names : ∀ (l : List Kd), ∀ x ∈ Kd.lvs "name" l, ∃ s, x = Sum.inr s
  | [], x, h => by cases h
  | k :: l, x, h => (List.mem_append.mp h).elim (lv_names k x) (lvs_names l x)
end
theorem all_inr : ∀ {l : List Key}, (∀ x ∈ l, ∃ s, x = Sum.inr s) → ∃ ns : List Str, l = ns.map Sum.inr
  | [], _ => ⟨[], rfl⟩
  | x :: l, h => by
    obtain ⟨s, e⟩ := h x (List.mem_cons_self ..)
    obtain ⟨ns, e2⟩ := all_inr fun y hy => h y (List.mem_cons_of_mem _ hy)
    exact ⟨s :: ns, by rw [e, e2]; rfl⟩
theorem c_vars {f : Addr} {fd : FuncData} (c_leaves : C8.Cal P w K mg base 2 "_leaves" (spLeaves K) []) (F : Fun K "variables_of" "variables_of" sVars f fd) (b : Binds K fd ["kind"] []) (hm : mg "variables_of" = some (.ref f)) : C8.Cal P w K mg base 3 "variables_of" spVars [] := by
  refine cal_of F hm b scVars (fun vs H Q E h => ?_) (fun cdv A outer s H vs Q E hr h => ?_)
  · obtain ⟨v, k, rfl, _⟩ := h
    rfl
  obtain ⟨v, k, rfl, hv, hsz, q⟩ := h
  refine ⟨_, (pss_one (ps_ret (C8.pe_c c_leaves hr (by decide) rfl (pa_cons (pv 0) (pa_cons pe_str pa_nil))))), ?_⟩
  refine ⟨_, rfl, _, k, _, rfl, .inl rfl, hv, hsz, fun b H' s hb => ?_⟩
  have all : ∀ x ∈ addAll [] (k.lv "name"), ∃ s, x = Sum.inr s := fun x hx => by
    rcases mem_addAll.mp hx with e | e
    · cases e
    · exact lv_names k x e
  obtain ⟨ns, e⟩ := all_inr all
  refine q b ns H' s ?_ fun s hs => ?_
  · rw [hb, e, List.map_map]
    rfl
  · have := mem_addAll.mpr (.inr hs : Sum.inr s ∈ ([] : List Key) ∨ Sum.inr s ∈ k.lv "name")
    rw [e] at this
    obtain ⟨t, ht, e2⟩ := List.mem_map.mp this
    cases e2
    exact ht
abbrev sInst : Stmt := topS 4
theorem scInst : FnScope ["scheme", "kind", "variables", "_", "pattern", "found", "todo", "place", "part"] ["scheme", "kind"] (defScope sInst) := ⟨rfl, rfl, rfl, by decide +kernel, rfl, by decide +kernel, by decide +kernel⟩
def spInst : Sp := fun vs H Q _ => ∃ (t va : Addr) (v cx vp : V) (ns : List Str) (p k : Kd), vs = [.ref t, v] ∧ H t = some (.tup [.ref va, cx, vp]) ∧ H va = some (.tup (ns.map V.str)) ∧ p.At H vp ∧ k.At H v ∧ (∀ s, Sum.inr s ∈ p.lv "name" → s ∈ ns) ∧ Gd p ∧ Gd k ∧ p.size ≤ 100000 ∧
  ∀ (b : Bool) (H' : Hp), Same H H' → (b = true ↔ Sol [] [(p, k)]) → Q (.bl b) H'
/-- all that stands between two turns -/
structure InstAt (H H2 : Hp) (fd0 td : Addr) (ns : List Str) (p k : Kd) (σ : Sb) (kvs : List (Key × V)) (st : List Addr) (L : List (Kd × Kd)) : Prop where
  same : Same H H2
  found : H2 fd0 = some (.dK kvs)
  todo : H2 td = some (.lst (st.map V.ref))
  fas : FoundAs Sum.inr H2 kvs σ
  nodup : (σ.map (·.1)).Nodup
  pairs : PairsAt H2 st L
  gs : ∀ q ∈ σ, Gd q.2
  gl : ∀ q ∈ L, Gd q.1 ∧ Gd q.2 ∧ ∀ s, Sum.inr s ∈ q.1.lv "name" → s ∈ ns
  small : σ.length + Kd.sizes (L.map (·.1)) ≤ 100000
  sol : Sol σ L ↔ Sol [] [(p, k)]
theorem not_name {p : Kd} (h : ∀ s, p ≠ .nm s) : p.word ≠ "name" := by
  cases p with
  | nm s => exact (h s rfl).elim
  | mt i => exact fun e => absurd (Kd.word_tag (k := .mt i) (m := .nm "a") e) (by simp [Kd.tag])
  | fn a b => exact fun e => absurd (Kd.word_tag (k := .fn a b) (m := .nm "a") e) (by simp [Kd.tag])
  | cn s l => exact fun e => absurd (Kd.word_tag (k := .cn s l) (m := .nm "a") e) (by simp [Kd.tag])
theorem c_inst {f : Addr} {fd : FuncData} (T : TxtT mg) (ckind_parts : C8.Cal P w K mg base 1 "kind_parts" (spParts K) []) (calike : C8.Cal P w K mg base 2 "alike" spAlike []) (F : Fun K "instance_of" "instance_of" sInst f fd) (b : Binds K fd ["scheme", "kind"] []) (hm : mg "instance_of" = some (.ref f)) : C8.Cal P w K mg base 3 "instance_of" spInst [] := by
  refine cal_of F hm b scInst (fun vs H Q E h => ?_) (fun cdv A outer s H vs Q E hr h => ?_)
  · obtain ⟨t, va, v, cx, vp, ns, p, k, rfl, _⟩ := h
    rfl
  obtain ⟨t, va, v, cx, vp, ns, p, k, rfl, ht, hva, hp, hk, hns, gp, gk, hsz, q⟩ := h
  have hu := hu_of hr
  have hu64 := hr.units
  refine ⟨_, (pss_cons (ps_asg (pv 0) (pg_tup rfl (pgs_cons (pg_name (i := 2) scInst.nd rfl (Or.inl rfl)) (pgs_cons (pg_name (i := 3) scInst.nd rfl (Or.inl rfl)) (pgs_cons (pg_name (i := 4) scInst.nd rfl (Or.inl rfl)) pgs_nil)))))
    (pss_cons (ps_set (i := 5) scInst.nd rfl (Or.inl rfl) pe_dnewK)
    (pss_cons (ps_set (i := 6) scInst.nd rfl (Or.inl rfl) (pe_lst (pa_cons (pe_tup (pa_cons (pv 4) (pa_cons (pv 1) pa_nil))) pa_nil)))
    (pss_cons (ps_while PassesOwn.never (pt_truth (pv 6) (fun _ => rfl))
      (pss_cons (ps_asg (pe_bm0 PySem.F.plainAttrs_list PySem.F.slot_list_pop PySem.F.type_list_pop mt_pop (pv 6)) (pg_tup rfl (pgs_cons (pg_name (i := 7) scInst.nd rfl (Or.inl rfl)) (pgs_cons (pg_name (i := 8) scInst.nd rfl (Or.inl rfl)) pgs_nil))))
    (pss_one (ps_if (PW.pt (pw_and (pt_cmpR op_eq (pe_ix ix_tup (pv 7) pe_int (fun _ _ => rfl)) pe_str (nomark _)) (pw_and1 (pt_cmpR op_in_seq (pe_ix ix_tup (pv 7) pe_int (fun _ _ => rfl)) (pv 2) rfl))))
      (pss_one (ps_if (pt_cmpR (op_neD hu64) (pe_dsetd (pv 5) (pe_ix ix_tup (pv 7) pe_int (fun _ _ => rfl)) (pv 8) ⟨rfl, rfl, rfl, rfl⟩) (pv 8) (nomark _))
      (pss_one (ps_ret pe_bl))
      pss_nil))
      (pss_one (ps_if (pt_not (pt_val (C8.pe_c calike hr (by decide) rfl (pa_cons (pv 7) (pa_cons (pv 8) pa_nil)))))
      (pss_one (ps_ret pe_bl))
      (pss_one (ps_expr (pe_bm PySem.F.plainAttrs_list PySem.F.slot_list_extend PySem.F.type_list_extend mt_extend (pv 6) (pa_cons (pe_listZip rfl rfl T.zlist boot_list rfl T.zzip (pa_cons (C8.pe_c ckind_parts hr (by decide) rfl (pa_cons (pv 7) pa_nil)) (pa_cons (C8.pe_c ckind_parts hr (by decide) rfl (pa_cons (pv 8) pa_nil)) pa_nil))) pa_nil))))))))))
    (pss_one (ps_ret pe_bl)))))), ?_⟩
  refine ⟨_, rfl, t, _, rfl, SqT.of ht, rfl, _, _, rfl, _, _, rfl, _, _, rfl, rfl, ?_⟩
  intro fd0 hfd0
  refine ⟨_, rfl, _, rfl, (by show 2 ≤ sizeLine; decide), fun tp htp => ?_⟩
  refine ⟨by show 1 ≤ sizeLine; decide, fun td htd => ?_⟩
  have nfp : fd0 ≠ tp := ne_of_none (H := upd H fd0 (.dK [])) upd_same htp
  have nft : fd0 ≠ td := ne_of_none (H := upd (upd H fd0 (.dK [])) tp (.tup [vp, v])) (by rw [upd_ne nfp]; exact upd_same) htd
  have npt : tp ≠ td := ne_of_none (H := upd (upd H fd0 (.dK [])) tp (.tup [vp, v])) upd_same htd
  have htp0 : H tp = none := by rw [upd_ne nfp.symm] at htp; exact htp
  have htd0 : H td = none := by rw [upd_ne npt.symm, upd_ne nft.symm] at htd; exact htd
  have tk0 : TK H (upd (upd (upd H fd0 (.dK [])) tp (.tup [vp, v])) td (.lst [.ref tp])) := (tk_new hfd0).trans ((tk_new htp).trans (tk_new htd))
  have start : InstAt H (upd (upd (upd H fd0 (.dK [])) tp (.tup [vp, v])) td (.lst [.ref tp])) fd0 td ns p k [] [] [tp] [(p, k)] :=
    { same := same_upd htd0 (same_upd htp0 (same_new hfd0 _) _) _
      found := by rw [upd_ne nft, upd_ne nfp, upd_same]
      todo := upd_same
      fas := rfl
      nodup := List.nodup_nil
      pairs := ⟨p, k, vp, v, [], rfl, by rw [upd_ne npt, upd_same], hp.keep tk0, hk.keep tk0, rfl⟩
      gs := fun q hq => by cases hq
      gl := fun q hq => by rw [List.mem_singleton.mp hq]; exact ⟨gp, gk, hns⟩
      small := by
        show 0 + Kd.sizes [p] ≤ _
        rw [Kd.sizes, Kd.sizes]
        omega
      sol := Iff.rfl }
  refine ⟨fun n σ' H2 => ∃ (pl pt : Option V) (σ : Sb) (kvs : List (Key × V)) (st : List Addr) (L : List (Kd × Kd)), n = Kd.sizes (L.map (·.1)) ∧ σ' = [some (.ref t), some v, some (.ref va), some cx, some vp, some (.ref fd0), some (.ref td), pl, pt] ∧ InstAt H H2 fd0 td ns p k σ kvs st L, ⟨_, none, none, [], [], [tp], [(p, k)], rfl, rfl, start⟩, ?_⟩
  rintro n σ' H2 ⟨pl, pt, σ, kvs, st, L, rfl, rfl, I⟩
  refine ⟨_, rfl, _, .inl ⟨_, SqL.of I.todo, rfl⟩, ?_⟩
  rcases List.eq_nil_or_concat st with e | ⟨st', a1, e⟩
  · subst e
    refine iteF ?_
    refine q true H2 I.same ⟨fun _ => I.sol.mp ?_, fun _ => rfl⟩
    rw [show L = [] from I.pairs]
    exact sol_nil I.nodup
  · rw [List.concat_eq_append] at e
    subst e
    have ne : (!((st' ++ [a1]).map V.ref).isEmpty) = true := by rw [List.map_append]; cases st'.map V.ref <;> rfl
    rw [ne]
    refine iteT ?_
    refine ⟨fun σ' H' => ∃ (pl pt : Option V) (σ : Sb) (kvs : List (Key × V)) (st : List Addr) (M : List (Kd × Kd)), Kd.sizes (M.map (·.1)) < Kd.sizes (L.map (·.1)) ∧ σ' = [some (.ref t), some v, some (.ref va), some cx, some vp, some (.ref fd0), some (.ref td), pl, pt] ∧ InstAt H H' fd0 td ns p k σ kvs st M,
      fun σ' H' ⟨pl, pt, σ, kvs, st, M, lt, e, I⟩ => ⟨_, lt, pl, pt, σ, kvs, st, M, rfl, e, I⟩, ?_⟩
    obtain ⟨M, pk, kk, x, y, eL, hM, ha1, hx, hy⟩ := I.pairs.snoc
    have gl1 := I.gl (pk, kk) (by rw [eL]; exact List.mem_append_right _ (List.mem_singleton.mpr rfl))
    have glM : ∀ q ∈ M, Gd q.1 ∧ Gd q.2 ∧ ∀ s, Sum.inr s ∈ q.1.lv "name" → s ∈ ns := fun q hq => I.gl q (by rw [eL]; exact List.mem_append_left _ hq)
    have esz : Kd.sizes (L.map (·.1)) = Kd.sizes (M.map (·.1)) + pk.size := by
      rw [eL, List.map_append, Kd.sizes_app]
      show _ + Kd.sizes [pk] = _
      rw [Kd.sizes, Kd.sizes, Nat.add_zero]
    have epk := Kd.size_parts pk
    have hsm := I.small
    refine ⟨_, rfl, .inl ⟨rfl, _, SqL.of I.todo⟩, td, _, .ref a1, rfl, rfl, I.todo, by rw [List.map_append]; simp, a1, [x, y], rfl, ?_, rfl, _, _, rfl, _, _, rfl, rfl, ?_⟩
    · refine SqT.of ?_
      exact tk_list I.todo _ _ ha1
    have eD : ((st' ++ [a1]).map V.ref).dropLast = st'.map V.ref := by rw [List.map_append]; exact List.dropLast_concat
    rw [eD]
    have t3 : TK H2 (upd H2 td (.lst (st'.map V.ref))) := tk_list I.todo
    have s3 : Same H (upd H2 td (.lst (st'.map V.ref))) := same_upd htd0 I.same _
    have ht3 : upd H2 td (.lst (st'.map V.ref)) td = some (.lst (st'.map V.ref)) := upd_same
    have hf3 : upd H2 td (.lst (st'.map V.ref)) fd0 = some (.dK kvs) := by rw [upd_ne nft]; exact I.found
    generalize upd H2 td (.lst (st'.map V.ref)) = H3 at t3 s3 ht3 hf3
    have hx3 := hx.keep t3
    have hy3 := hy.keep t3
    have hM3 := hM.keep t3
    have hF3 := I.fas.keep t3
    obtain ⟨a2, r2, rfl, ha2⟩ := hx3.tup
    refine ⟨_, rfl, a2, _, 0, .str pk.word, rfl, rfl, SqT.of ha2, at0 _ _, rfl, _, rfl, ?_⟩
    by_cases hnm : ∃ s, pk = .nm s
    · obtain ⟨s, rfl⟩ := hnm
      have hs2 : H3 a2 = some (.tup [.str "name", .str s]) := by
        obtain ⟨_, e, h⟩ := hx3
        cases e
        exact h
      have hin : s ∈ ns := gl1.2.2 s (by show Sum.inr s ∈ (if ("name" : Str) = "name" then [Sum.inr s] else []); rw [if_pos rfl]; exact List.mem_singleton.mpr rfl)
      have z : decide (V.str (Kd.nm s).word = V.str "name") = true := decide_eq_true rfl
      show if decide (V.str (Kd.nm s).word = V.str "name") = true then _ else _
      rw [z]
      refine iteT ?_
      refine ⟨_, rfl, a2, _, 1, .str s, rfl, rfl, SqT.of hs2, at1 _ _ _, _, rfl, va, ns.map V.str, rfl, .inr (SqT.of (s3 _ _ hva)), rfl, flat_strs ns, _, rfl, ?_⟩
      show if inV (.str s) (ns.map V.str) = true then _ else _
      rw [in_strs hin]
      refine iteT ?_
      refine ⟨_, rfl, fd0, rfl, .inl ⟨kvs, .inl hf3⟩, _, rfl, a2, _, 1, .str s, rfl, rfl, SqT.of hs2, at1 _ _ _, _, rfl, kvs, Sum.inr s, hf3, rfl, ?_, fun u hu => ?_, fun hn => ?_⟩
      · have := hF3.len
        exact szl (by omega)
      · rcases hF3.look inj_inr s with ⟨_, e⟩ | ⟨m, u', l1, l2, hm⟩
        · rw [e] at hu
          cases hu
        · rw [l2] at hu
          cases hu
          have gm : Gd m := by
            have : (s, m) ∈ σ := mem_of_look l1
            exact I.gs _ this
          refine ⟨_, rfl, m.D, kk.D, hm.dp, hy3.dp, gm.shaped, gl1.2.1.shaped, _, rfl, ?_⟩
          by_cases em : m = kk
          · have z : (!PyData.eqv m.D kk.D) = false := by rw [(Kd.eqv_iff m kk).mpr em]; rfl
            show if (!PyData.eqv m.D kk.D) = true then _ else _
            rw [z]
            refine iteF ?_
            refine ⟨_, _, σ, kvs, st', M, by omega, rfl, ?_⟩
            exact { same := s3, found := hf3, todo := ht3, fas := hF3, nodup := I.nodup, pairs := hM3, gs := I.gs, gl := glM, small := by omega, sol := by rw [← I.sol, eL]; exact (sol_there l1 em).symm }
          · have z : (!PyData.eqv m.D kk.D) = true := by
              cases h : PyData.eqv m.D kk.D with
              | false => rfl
              | true => exact (em ((Kd.eqv_iff m kk).mp h)).elim
            show if (!PyData.eqv m.D kk.D) = true then _ else _
            rw [z]
            refine iteT ?_
            exact q false H3 s3 ⟨fun e => by (cases e), fun e => by
              have := I.sol.mpr e
              rw [eL] at this
              exact (sol_clash l1 em this).elim⟩
      · rcases hF3.look inj_inr s with ⟨l1, e⟩ | ⟨m, u', l1, l2, hm⟩
        · rw [putK_new _ e]
          refine ⟨_, rfl, kk.D, kk.D, (hy3.keep (tk_dict hf3)).dp, (hy3.keep (tk_dict hf3)).dp, gl1.2.1.shaped, gl1.2.1.shaped, _, rfl, ?_⟩
          have z : (!PyData.eqv kk.D kk.D) = false := by rw [(Kd.eqv_iff kk kk).mpr rfl]; rfl
          show if (!PyData.eqv kk.D kk.D) = true then _ else _
          rw [z]
          refine iteF ?_
          have t4 : TK H3 (upd H3 fd0 (.dK (kvs ++ [(Sum.inr s, y)]))) := tk_dict hf3
          refine ⟨_, _, σ ++ [(s, kk)], kvs ++ [(Sum.inr s, y)], st', M, by omega, rfl, ?_⟩
          exact { same := same_upd hfd0 s3 _, found := upd_same, todo := (by rw [upd_ne nft.symm]; exact ht3), fas := (hF3.keep t4).add (hy3.keep t4), nodup := nodup_add I.nodup l1, pairs := hM3.keep t4,
                  gs := fun q hq => (by
                    rcases List.mem_append.mp hq with h | h
                    · exact I.gs q h
                    · rw [List.mem_singleton.mp h]; exact gl1.2.1),
                  gl := glM, small := (by rw [List.length_append, List.length_singleton]; omega), sol := (by rw [← I.sol, eL]; exact sol_add.symm) }
        · rw [l2] at hn
          cases hn
    · have hno : ∀ s, pk ≠ .nm s := fun s e => hnm ⟨s, e⟩
      have z : decide (V.str pk.word = V.str "name") = false := decide_eq_false (fun e => not_name hno (V.str.inj e))
      show if decide (V.str pk.word = V.str "name") = true then _ else _
      rw [z]
      refine iteF (iteF ?_)
      refine ⟨_, rfl, _, rfl, _, _, pk, kk, rfl, hx3, hy3, fun H4 s4 => ⟨_, rfl, ?_⟩⟩
      have s34 : Same H H4 := fun b o e => s4 _ _ (s3 _ _ e)
      cases al : pk.alike kk with
      | false =>
        refine iteT ?_
        exact q false H4 s34 ⟨fun e => by (cases e), fun e => by
          have := I.sol.mpr e
          rw [eL] at this
          exact (sol_no hno al this).elim⟩
      | true =>
        refine iteF ?_
        have t4 : TK H3 H4 := tk_same s4
        refine ⟨_, rfl, .inl ⟨rfl, _, SqL.of (s4 _ _ ht3)⟩, _, rfl, _, pk, rfl, hx3.keep t4, fun b1 xs1 H5 s5 hb1 ats1 => ?_⟩
        have t5 : TK H4 H5 := tk_same s5
        refine ⟨_, rfl, _, kk, rfl, hy3.keep (t4.trans t5), fun b2 xs2 H6 s6 hb2 ats2 => ?_⟩
        have t6 : TK H5 H6 := tk_same s6
        have elen := (Kd.alike_yes (fun s => .nm s) pk kk hno al).1
        have l1 := ats1.len
        have l2 := ats2.len
        have exl : xs1.length = xs2.length := by omega
        refine ⟨b1, b2, xs1, xs2, rfl, SqT.of (s6 _ _ hb1), SqT.of hb2, exl, fun H7 lp bs s7 hlp hbs hl7 hlen hpairs => ?_⟩
        have s47 : Same H4 H7 := fun b o e => s7 _ _ (s6 _ _ (s5 _ _ e))
        have t7 : TK H6 H7 := tk_same s7
        have s07 : Same H H7 := fun b o e => s47 _ _ (s34 _ _ e)
        have hz := PairsAt.zip (H := H7) (ats1.keep (t6.trans t7)) (ats2.keep t7) hlen exl hpairs
        have hM7 := hM3.keep (t4.trans (t5.trans (t6.trans t7)))
        have hF7 := hF3.keep (t4.trans (t5.trans (t6.trans t7)))
        have ht7 := s47 _ _ (s4 _ _ ht3)
        have hf7 := s47 _ _ (s4 _ _ hf3)
        have b1' := hM7.len
        have b2' := sizes_ge M
        have b3' := Kd.sizes_len pk.parts
        refine ⟨td, lp, st'.map V.ref, bs.map V.ref, rfl, rfl, ht7, hl7, ?_, ?_⟩
        · rw [List.length_map, List.length_map]
          exact Nat.le_of_lt (szl (by omega))
        · have t8 : TK H7 (upd H7 td (.lst (st'.map V.ref ++ bs.map V.ref))) := tk_list ht7
          have ezp : Kd.sizes ((M ++ pk.parts.zip kk.parts).map (·.1)) ≤ Kd.sizes (M.map (·.1)) + Kd.sizes pk.parts := by
            rw [List.map_append, Kd.sizes_app]
            have := sizes_zip pk.parts kk.parts
            omega
          refine ⟨_, _, σ, kvs, st' ++ bs, M ++ pk.parts.zip kk.parts, by omega, rfl, ?_⟩
          exact { same := same_upd htd0 s07 _, found := (by rw [upd_ne nft]; exact hf7), todo := (by rw [upd_same, List.map_append]), fas := hF7.keep t8, nodup := I.nodup, pairs := (hM7.keep t8).app (hz.keep t8), gs := I.gs,
                  gl := fun q hq => (by
                    rcases List.mem_append.mp hq with h | h
                    · exact glM q h
                    · obtain ⟨m1, m2⟩ := List.of_mem_zip h
                      exact ⟨gl1.1.part m1, gl1.2.1.part m2, fun s hs => gl1.2.2 s (Kd.lv_part m1 hs)⟩),
                  small := (by omega), sol := (by rw [← I.sol, eL]; exact (sol_yes hno al).symm) }
end
end Toy

set_option Elab.async false
set_option linter.all false
set_option maxRecDepth 100000
set_option maxHeartbeats 4000000
/-! Part V: own rule: a display of a dict whose keys are tuples. -/
namespace Toy
open PySem PySem.Spec PyProof.Rows L2
/-- pairs whose first parts are tuples that stand in H, of these keys -/
def TupKeys (H : Hp) : List (V × V) → List (List Key × V) → Prop
  | [], kvs => kvs = []
  | p :: ps, kvs => ∃ b k more, p.1 = .ref b ∧ H b = some (.tup (k.map kV)) ∧ kvs = (k, p.2) :: more ∧ TupKeys H ps more
theorem TupKeys.keep {H H' : Hp} (t : TK H H') : ∀ {ps : List (V × V)} {kvs : List (List Key × V)}, TupKeys H ps kvs → TupKeys H' ps kvs
  | [], _, h => h
  | p :: ps, _, ⟨b, k, more, e1, e2, e3, e4⟩ => ⟨b, k, more, e1, t _ _ e2, e3, e4.keep t⟩
theorem TupKeys.len {H : Hp} : ∀ {ps : List (V × V)} {kvs : List (List Key × V)}, TupKeys H ps kvs → kvs.length = ps.length
  | [], _, h => by
    have e : _ = [] := h
    rw [e]
    rfl
  | p :: ps, _, ⟨b, k, more, e1, e2, e3, e4⟩ => by rw [e3, List.length_cons, List.length_cons, e4.len]
def putAllT (acc kvs : List (List Key × V)) : List (List Key × V) := kvs.foldl (fun acc kv => putK acc kv.1 kv.2) acc
section
variable {X : Cx} {pins : List (Addr × Obj)} {σ : L2.St} {A : Around} {E : Value → Shared → Prop}
theorem dispT_set {H : Hp} {s : Shared} {d b : Addr} {acc : List (List Key × V)} {k : List Key} {v : V} {r : Value} {Q : Unit → Shared → Prop} (hu : A.units < cLine) (I : Inv X pins σ H s) (e : H d = some (.dT acc)) (eb : H b = some (.tup (k.map kV))) (rv : RelV v r) (hl : acc.length < sizeLine)
    (h : ∀ s', Inv X pins σ (upd H d (.dT (putK acc k v))) s' → Q () s') : wpAny (model X.prog X.w) A (dictSet d (.ref b) r) Q E s := by
  obtain ⟨z, hd, xs, rel, dd⟩ := dt_of I.hok e
  have hxs : xs.length ≤ sizeLine := (Paired.length rel) ▸ z
  refine wpAny_dictSet_heap (hsz := hxs) (knd := tupleKind (mixKind X.prog X.w)) hu (key_of I.hok eb) dd fun g dd' sb => h _ ?_
  obtain ⟨ob, es, ep, g1, g2, g3, g4, _, g5⟩ := dd'
  have hlen : (putK acc k v).length ≤ sizeLine := Nat.le_trans (length_putK acc k v) hl
  refine d_write I (by rw [e]; exact True.intro) sb ⟨ob, g1⟩ ⟨hlen, hd, _, (rel.put k eb rv).keeps fun c ys ec => ?_, ob, es, ep, g1, g2, g3, g4, g5⟩
  exact (upd_ne (ne_of ec e (fun z => nomatch z))).trans ec
theorem dispT_all {d : Addr} (hu : A.units < cLine) : ∀ (ps : List (V × V)) (vs : List (Value × Value)) (kvs acc : List (List Key × V)) (H : Hp) (s : Shared) (Q : PUnit → Shared → Prop), VV ps vs → TupKeys H ps kvs → Inv X pins σ H s → H d = some (.dT acc) → acc.length + kvs.length ≤ 1000 →
    (∀ s' H', Inv X pins σ H' s' → H' d = some (.dT (putAllT acc kvs)) → (∀ b, b ≠ d → H' b = H b) → Q PUnit.unit s') →
    wpAny (model X.prog X.w) A (forIn vs PUnit.unit fun (x : Value × Value) (_ : PUnit) => (do dictSet d x.1 x.2; pure (ForInStep.yield PUnit.unit) : Sem (ForInStep PUnit))) Q E s
  | [], _, kvs, acc, H, s, Q, rel, hk, I, e, _, hQ => by
    cases rel
    have z : kvs = [] := hk
    subst z
    rw [List.forIn_nil]
    exact wpAny_pure (hQ s H I e fun _ _ => rfl)
  | p :: ps, _, kvs, acc, H, s, Q, rel, hk, I, e, hl, hQ => by
    obtain ⟨b, k, more, e1, e2, e3, e4⟩ := hk
    subst e3
    cases rel with
    | @cons x y xs ys r rr =>
      rw [List.length_cons] at hl
      rw [List.forIn_cons]
      obtain ⟨y1, y2⟩ := y
      have ry : RelV p.1 y1 := r.1
      rw [e1] at ry
      have ey : y1 = Value.ref b := ry
      subst ey
      refine wpAny_bind (wpAny_bind (dispT_set hu I e e2 r.2 (szl (by omega)) fun s' I' => wpAny_pure ?_))
      have hn : ∀ xs, H d ≠ some (.tup xs) := fun xs q => by rw [e] at q; cases q
      have lp := length_putK acc k p.2
      refine dispT_all hu ps _ more (putK acc k p.2) _ s' Q rr (e4.keep (tk_upd hn)) I' upd_same (by omega) fun s2 H2 I2 f1 f2 => hQ s2 H2 I2 f1 fun c hc => ?_
      rw [f2 c hc, upd_ne hc]
end
def tDispT (trs : List (TE × TE)) : TE := fun σ H Q => ∀ p, H p = none → tPairs trs σ (upd H p (.dT [])) fun ps H2 => H2 p = some (.dT []) ∧ ∃ kvs : List (List Key × V), TupKeys H2 ps kvs ∧ kvs.length ≤ 15 ∧ ∀ H3 : Hp, H3 p = some (.dT (putAllT [] kvs)) → (∀ b, b ≠ p → H3 b = H2 b) → Q (.ref p) H3
theorem pe_dispT {X : Cx} {pos : Pos} {keys : List (Option Expr)} {values : List Expr} {trs : List (TE × TE)} (hu : X.A.units + 1 < cLine) (h : PPs X pos keys values trs) (hall : keys.all (·.isSome) = true) (hl : keys.length = values.length) (h0 : keys ≠ [])
    (h15 : keys.length ≤ 15) : PE X (.Dict keys values pos) (tDispT trs) := by
  refine ⟨fun pins s σ H Q I q => ?_⟩
  have hn := I.hok.fresh (Nat.le_refl s.heap.objs.size)
  have I1 := I.laid (a := s.heap.objs.size) (o := .dT []) (h' := s.heap.push { cls := .type "dict", data := .dict #[] }) (t' := s.toks) (fun _ _ q => Heap.get?_push_of_some _ q) (Nat.le_refl _) (dt_empty s.heap I.big)
  have hne : pairTrees keys values X.env pos ≠ [] := fun e => by
    have z := pairTrees_length keys values X.env pos hall hl
    rw [e] at z
    exact h0 (List.length_eq_zero_iff.mp z.symm)
  have hlen := pairTrees_length keys values X.env pos hall hl
  rw [arm_eval_Dict, zip_pairTrees keys values X.env pos hall hl, dictDisplay_pairs _ hne (by omega)]
  refine wpAny_bind (wpAny_standAt (wpAny_bind ?_))
  unfold subDict
  refine wpAny_bind (wpAny_alloc ?_)
  refine wpAny_bind (wpAny_holding ?_)
  rw [if_pos (by omega)]
  refine wpAny_bind (thn (h.run pins _ σ _ _ I1 (q _ hn)) fun ws s2 ⟨ps, H2, I2, rel, e, kvs, tk, lk, q2⟩ => ?_)
  refine wpAny_holding ?_
  refine wpAny_bind (dispT_all (Nat.lt_of_succ_lt hu) ps ws kvs [] H2 s2 _ rel tk I2 e (by show 0 + _ ≤ _; omega) fun s3 H3 I3 f1 f2 => wpAny_pure (wpAny_pure ?_))
  exact wpAny_pure ⟨.ref _, H3, I3, rfl, q2 H3 f1 f2⟩
end Toy

set_option Elab.async false
set_option linter.all false
set_option maxRecDepth 100000
set_option maxHeartbeats 4000000
/-! Part E: the law's drawing of types. -/
namespace Toy
open PySem L2
open PyProof.Rows (envOfC)
mutual
/-- no metas -/
def Kd.nom : Kd → Bool
  | .nm _ => true
  | .mt _ => false
  | .fn a b => a.nom && b.nom
  | .cn _ l => Kd.noms l
def Kd.noms : List Kd → Bool
  | [] => true
  | k :: l => k.nom && Kd.noms l
end
/-- what is drawn at a depth -/
structure Gk (d : Nat) (k : Kd) : Prop where
  lay : k.lay = true
  nom : k.nom = true
  dep : k.dep ≤ d
  size : k.size ≤ 2 ^ (d + 1) - 1
theorem pow1 (d : Nat) : 1 ≤ 2 ^ d := Nat.one_le_two_pow
theorem gk_nm {d : Nat} {s : Str} (h : PyData.strOk s = true) : Gk d (.nm s) := ⟨h, rfl, Nat.zero_le _, by
  have := pow1 d
  show 1 ≤ _
  rw [Nat.pow_succ]
  omega⟩
theorem gk_c0 {d : Nat} {s : Str} (h : PyData.strOk s = true) : Gk (d + 1) (.cn s []) := ⟨by show (PyData.strOk s && true) = true; rw [h]; rfl, rfl, by show 1 + 0 ≤ _; omega, by
  have := pow1 d
  show 1 + 0 ≤ _
  rw [Nat.pow_succ, Nat.pow_succ]
  omega⟩
theorem gk_fn {d : Nat} {a b : Kd} (h : Gk d a) (k : Gk d b) : Gk (d + 1) (.fn a b) := ⟨by show (a.lay && b.lay) = true; rw [h.lay, k.lay]; rfl, by show (a.nom && b.nom) = true; rw [h.nom, k.nom]; rfl, by
  have := h.dep
  have := k.dep
  show 1 + max a.dep b.dep ≤ _
  omega, by
  have := h.size
  have := k.size
  have := pow1 (d + 1)
  show 1 + a.size + b.size ≤ _
  rw [Nat.pow_succ 2 (d + 1)]
  omega⟩
theorem gk_c1 {d : Nat} {s : Str} {a : Kd} (e : PyData.strOk s = true) (h : Gk d a) : Gk (d + 1) (.cn s [a]) := ⟨by show (PyData.strOk s && (a.lay && true)) = true; rw [e, h.lay]; rfl, by show (a.nom && true) = true; rw [h.nom]; rfl, by
  have := h.dep
  show 1 + max a.dep 0 ≤ _
  omega, by
  have := h.size
  have := pow1 (d + 1)
  show 1 + (a.size + 0) ≤ _
  rw [Nat.pow_succ 2 (d + 1)]
  omega⟩
theorem gk_c2 {d : Nat} {s : Str} {a b : Kd} (e : PyData.strOk s = true) (h : Gk d a) (k : Gk d b) : Gk (d + 1) (.cn s [a, b]) := ⟨by show (PyData.strOk s && (a.lay && (b.lay && true))) = true; rw [e, h.lay, k.lay]; rfl, by show (a.nom && (b.nom && true)) = true; rw [h.nom, k.nom]; rfl, by
  have := h.dep
  have := k.dep
  show 1 + max a.dep (max b.dep 0) ≤ _
  omega, by
  have := h.size
  have := k.size
  have := pow1 (d + 1)
  show 1 + (a.size + (b.size + 0)) ≤ _
  rw [Nat.pow_succ 2 (d + 1)]
  omega⟩
theorem ok_a : PyData.strOk "a" = true := by decide +kernel
theorem ok_b : PyData.strOk "b" = true := by decide +kernel
theorem ok_int : PyData.strOk "Int" = true := by decide +kernel
theorem ok_bool : PyData.strOk "Bool" = true := by decide +kernel
theorem ok_list : PyData.strOk "List" = true := by decide +kernel
theorem ok_pair : PyData.strOk "Pair" = true := by decide +kernel
/-- four values, one of them taken -/
theorem at4 {a b c d : V} {i : Int} (h0 : 0 ≤ i) (h4 : i < 4) (G : V → Prop) (ha : G a) (hb : G b) (hc : G c) (hd : G d) : ∃ v, atI [a, b, c, d] i = some v ∧ G v := by
  have e : i = 0 ∨ i = 1 ∨ i = 2 ∨ i = 3 := by omega
  rcases e with e | e | e | e
  · exact ⟨a, by rw [e]; exact atI_nat (j := 0) rfl, ha⟩
  · exact ⟨b, by rw [e]; exact atI_nat (j := 1) rfl, hb⟩
  · exact ⟨c, by rw [e]; exact atI_nat (j := 2) rfl, hc⟩
  · exact ⟨d, by rw [e]; exact atI_nat (j := 3) rfl, hd⟩
section
variable {P : Program} {w : World} {K : PySem.W.Frag} {mg : Str → Option Value} {base : Heap}
/-- a def of which nothing is asked -/
theorem cal_none {x : Str} {st : Stmt} {f : Addr} {fd : FuncData} {ps : List Str} {k : Nat} {sp : Sp} (F : Fun K x x st f fd) (hm : mg x = some (.ref f)) (b : Binds K fd ps []) (no : ∀ vs H Q E, ¬ sp vs H Q E) : C8.Cal P w K mg base k x sp [] :=
  ⟨f, fd, ps, [], ⟨fun vs H Q E h => (no _ _ _ _ h).elim, fun A outer s H args us vs Q E hr e0 hb r hsp => (no _ _ _ _ hsp).elim⟩, hm, F.kp, b, .nil⟩
theorem Keep.same {p : Addr} {H H' : Hp} (s : Same H H') : Keep p H H' := fun b o _ e => s b o e
theorem Keep.trans {p : Addr} {H1 H2 H3 : Hp} (h : Keep p H1 H2) (k : Keep p H2 H3) : Keep p H1 H3 := fun b o n e => k b o n (h b o n e)
abbrev sKind : Stmt := topS 10
theorem scKind : FnScope ["draws", "depth", "metas", "pick"] ["draws", "depth", "metas"] (defScope sKind) := ⟨rfl, rfl, rfl, by decide +kernel, rfl, by decide +kernel, by decide +kernel⟩
def spKind (n : Nat) : Sp := fun vs H Q _ => ∃ (p r : Addr) (d : Nat), vs = [.ref p, .int (d : Int), .int 0] ∧ d < n ∧ DrawsAt H p r ∧ ∀ (v : V) (k : Kd) (H' : Hp), Keep p H H' → DrawsAt H' p r → k.At H' v → Gk (d + 1) k → Q v H'
theorem c_kind {f : Addr} {fd : FuncData} (T : TxtD mg) (c_law_next : C8.Cal P w K mg base 2 "_law_next" spNext []) (F : Fun K "_law_kind" "_law_kind" sKind f fd) (b : Binds K fd ["draws", "depth", "metas"] []) (hm : mg "_law_kind" = some (.ref f)) : ∀ n : Nat, C8.Cal P w K mg base (n + 2) "_law_kind" (spKind n) []
  | 0 => cal_none F hm b fun vs H Q E ⟨p, r, d, _, h, _⟩ => Nat.not_lt_zero _ h
  | n + 1 => by
    have c_law_kind := c_kind T c_law_next F b hm n
    refine cal_of F hm b scKind (fun vs H Q E h => ?_) (fun cdv A outer s H vs Q E hr h => ?_)
    · obtain ⟨p, r, d, rfl, _⟩ := h
      rfl
    obtain ⟨p, r, d, rfl, hdn, hD, q⟩ := h
    refine ⟨_, (pss_cons (ps_set (i := 3) scKind.nd rfl (Or.inl rfl) (C8.pe_c c_law_next hr (by omega) rfl (pa_cons (pv 0) (pa_cons pe_int pa_nil))))
    (pss_cons (ps_if (PW.pt (pw_or (pt_cmpR op_eq (pv 1) pe_int (nomark _)) (pw_or1 (pt_cmpR op_lt (pv 3) pe_int (nomark _)))))
      (pss_cons (ps_if (PW.pt (pw_and (pt_cmpR op_eq (pe_op op_mod (pv 3) pe_int) pe_int (nomark _)) (pw_and1 (pt_cmpR op_gt (pv 2) pe_int (nomark _)))))
      (pss_one (ps_ret (pe_tup (pa_cons pe_str (pa_cons (C8.pe_c c_law_next hr (by omega) rfl (pa_cons (pv 0) (pa_cons (pv 2) pa_nil))) pa_nil)))))
      pss_nil)
    (pss_one (ps_ret (pe_ix ix_list (pe_lst (pa_cons (pe_tup (pa_cons pe_str (pa_cons pe_str pa_nil))) (pa_cons (pe_tup (pa_cons pe_str (pa_cons pe_str pa_nil))) (pa_cons (pe_tup (pa_cons pe_str (pa_cons pe_str (pa_cons (pe_tup pa_nil) pa_nil)))) (pa_cons (pe_tup (pa_cons pe_str (pa_cons pe_str (pa_cons (pe_tup pa_nil) pa_nil)))) pa_nil))))) (C8.pe_c c_law_next hr (by omega) rfl (pa_cons (pv 0) (pa_cons pe_int pa_nil))) (fun _ _ => rfl)))))
      pss_nil)
    (pss_cons (ps_if (pt_cmpR op_lt (pv 3) pe_int (nomark _))
      (pss_one (ps_ret (pe_tup (pa_cons pe_str (pa_cons (C8.pe_c c_law_kind hr (by omega) rfl (pa_cons (pv 0) (pa_cons (pe_op op_sub (pv 1) pe_int) (pa_cons (pv 2) pa_nil)))) (pa_cons (C8.pe_c c_law_kind hr (by omega) rfl (pa_cons (pv 0) (pa_cons (pe_op op_sub (pv 1) pe_int) (pa_cons (pv 2) pa_nil)))) pa_nil))))))
      pss_nil)
    (pss_cons (ps_if (pt_cmpR op_eq (pv 3) pe_int (nomark _))
      (pss_one (ps_ret (pe_tup (pa_cons pe_str (pa_cons pe_str (pa_cons (pe_tup (pa_cons (C8.pe_c c_law_kind hr (by omega) rfl (pa_cons (pv 0) (pa_cons (pe_op op_sub (pv 1) pe_int) (pa_cons (pv 2) pa_nil)))) pa_nil)) pa_nil))))))
      pss_nil)
    (pss_one (ps_ret (pe_tup (pa_cons pe_str (pa_cons pe_str (pa_cons (pe_tup (pa_cons (C8.pe_c c_law_kind hr (by omega) rfl (pa_cons (pv 0) (pa_cons (pe_op op_sub (pv 1) pe_int) (pa_cons (pv 2) pa_nil)))) (pa_cons (C8.pe_c c_law_kind hr (by omega) rfl (pa_cons (pv 0) (pa_cons (pe_op op_sub (pv 1) pe_int) (pa_cons (pv 2) pa_nil)))) pa_nil))) pa_nil)))))))))), ?_⟩
    refine ⟨_, rfl, p, r, 9, rfl, by decide, hD, fun pick H1 h0 h9 k1 d1 => ?_⟩
    refine ⟨_, rfl, rfl, _, rfl, ?_⟩
    by_cases hd0 : d = 0
    · have z : decide (V.int (d : Int) = V.int 0) = true := by rw [hd0]; exact decide_eq_true rfl
      show if decide (V.int (d : Int) = V.int 0) = true then _ else _
      rw [z]
      refine iteT (iteT ?_)
      refine ⟨_, rfl, _, _, rfl, rfl, (show (0 : Int) < 2 by decide), rfl, _, rfl, ?_⟩
      refine ite2 (fun _ => ?_) (fun _ => ?_)
      · refine ⟨_, rfl, _, _, rfl, rfl, _, rfl, ?_⟩
        refine iteF ?_
        refine ⟨by show 2 ≤ sizeLine; decide, fun p1 hp1 => ?_⟩
        have s1 := same_new hp1 (.tup [.str "name", .str "a"])
        have e1 : upd H1 p1 (.tup [.str "name", .str "a"]) p1 = some (.tup [.str "name", .str "a"]) := upd_same
        generalize upd H1 p1 (.tup [.str "name", .str "a"]) = G1 at s1 e1 ⊢
        refine ⟨by show 2 ≤ sizeLine; decide, fun p2 hp2 => ?_⟩
        have s2 := same_new hp2 (.tup [.str "name", .str "b"])
        have e2 : upd G1 p2 (.tup [.str "name", .str "b"]) p2 = some (.tup [.str "name", .str "b"]) := upd_same
        generalize upd G1 p2 (.tup [.str "name", .str "b"]) = G2 at s2 e2 ⊢
        refine ⟨by show 0 ≤ sizeLine; decide, fun n3 hn3 => ?_⟩
        have s3 := same_new hn3 (.tup [])
        have e3 : upd G2 n3 (.tup []) n3 = some (.tup []) := upd_same
        generalize upd G2 n3 (.tup []) = G3 at s3 e3 ⊢
        refine ⟨by show 3 ≤ sizeLine; decide, fun p4 hp4 => ?_⟩
        have s4 := same_new hp4 (.tup [.str "con", .str "Int", .ref n3])
        have e4 : upd G3 p4 (.tup [.str "con", .str "Int", .ref n3]) p4 = some (.tup [.str "con", .str "Int", .ref n3]) := upd_same
        generalize upd G3 p4 (.tup [.str "con", .str "Int", .ref n3]) = G4 at s4 e4 ⊢
        refine ⟨by show 0 ≤ sizeLine; decide, fun n5 hn5 => ?_⟩
        have s5 := same_new hn5 (.tup [])
        have e5 : upd G4 n5 (.tup []) n5 = some (.tup []) := upd_same
        generalize upd G4 n5 (.tup []) = G5 at s5 e5 ⊢
        refine ⟨by show 3 ≤ sizeLine; decide, fun p6 hp6 => ?_⟩
        have s6 := same_new hp6 (.tup [.str "con", .str "Bool", .ref n5])
        have e6 : upd G5 p6 (.tup [.str "con", .str "Bool", .ref n5]) p6 = some (.tup [.str "con", .str "Bool", .ref n5]) := upd_same
        generalize upd G5 p6 (.tup [.str "con", .str "Bool", .ref n5]) = G6 at s6 e6 ⊢
        refine ⟨by show 4 ≤ sizeLine; decide, fun l hl => ?_⟩
        have s7 := same_new hl (.lst [.ref p1, .ref p2, .ref p4, .ref p6])
        have e7 : upd G6 l (.lst [.ref p1, .ref p2, .ref p4, .ref p6]) l = some (.lst [.ref p1, .ref p2, .ref p4, .ref p6]) := upd_same
        generalize upd G6 l (.lst [.ref p1, .ref p2, .ref p4, .ref p6]) = G7 at s7 e7 ⊢
        have s17 : Same H1 G7 := fun b o e => s7 _ _ (s6 _ _ (s5 _ _ (s4 _ _ (s3 _ _ (s2 _ _ (s1 _ _ e))))))
        refine ⟨_, rfl, p, r, 4, rfl, by decide, d1.same s17, fun m H2 m0 m4 k2 d2 => ?_⟩
        have t2 : TK G7 H2 := tk_keep k2 (d1.same s17).notup
        have nl : l ≠ p := fun e => by
          obtain ⟨_, _, _, z, _⟩ := d1.same s17
          rw [← e, e7] at z
          cases z
        obtain ⟨v, hv, k, hk, gk⟩ := at4 (a := .ref p1) (b := .ref p2) (c := .ref p4) (d := .ref p6) m0 m4 (fun v => ∃ k : Kd, k.At H2 v ∧ Gk (d + 1) k)
          ⟨.nm "a", ⟨p1, rfl, t2 _ _ (s7 _ _ (s6 _ _ (s5 _ _ (s4 _ _ (s3 _ _ (s2 _ _ e1))))))⟩, gk_nm ok_a⟩
          ⟨.nm "b", ⟨p2, rfl, t2 _ _ (s7 _ _ (s6 _ _ (s5 _ _ (s4 _ _ (s3 _ _ e2)))))⟩, gk_nm ok_b⟩
          ⟨.cn "Int" [], ⟨p4, n3, [], rfl, t2 _ _ (s7 _ _ (s6 _ _ (s5 _ _ e4))), t2 _ _ (s7 _ _ (s6 _ _ (s5 _ _ (s4 _ _ e3)))), rfl⟩, gk_c0 ok_int⟩
          ⟨.cn "Bool" [], ⟨p6, n5, [], rfl, t2 _ _ (s7 _ _ e6), t2 _ _ (s7 _ _ (s6 _ _ e5)), rfl⟩, gk_c0 ok_bool⟩
        refine ⟨l, _, m, v, rfl, rfl, SqL.of (k2 _ _ nl e7), hv, ?_⟩
        exact q v k H2 (k1.trans ((Keep.same s17).trans k2)) d2 hk gk
      · refine iteF ?_
        refine ⟨by show 2 ≤ sizeLine; decide, fun p1 hp1 => ?_⟩
        have s1 := same_new hp1 (.tup [.str "name", .str "a"])
        have e1 : upd H1 p1 (.tup [.str "name", .str "a"]) p1 = some (.tup [.str "name", .str "a"]) := upd_same
        generalize upd H1 p1 (.tup [.str "name", .str "a"]) = G1 at s1 e1 ⊢
        refine ⟨by show 2 ≤ sizeLine; decide, fun p2 hp2 => ?_⟩
        have s2 := same_new hp2 (.tup [.str "name", .str "b"])
        have e2 : upd G1 p2 (.tup [.str "name", .str "b"]) p2 = some (.tup [.str "name", .str "b"]) := upd_same
        generalize upd G1 p2 (.tup [.str "name", .str "b"]) = G2 at s2 e2 ⊢
        refine ⟨by show 0 ≤ sizeLine; decide, fun n3 hn3 => ?_⟩
        have s3 := same_new hn3 (.tup [])
        have e3 : upd G2 n3 (.tup []) n3 = some (.tup []) := upd_same
        generalize upd G2 n3 (.tup []) = G3 at s3 e3 ⊢
        refine ⟨by show 3 ≤ sizeLine; decide, fun p4 hp4 => ?_⟩
        have s4 := same_new hp4 (.tup [.str "con", .str "Int", .ref n3])
        have e4 : upd G3 p4 (.tup [.str "con", .str "Int", .ref n3]) p4 = some (.tup [.str "con", .str "Int", .ref n3]) := upd_same
        generalize upd G3 p4 (.tup [.str "con", .str "Int", .ref n3]) = G4 at s4 e4 ⊢
        refine ⟨by show 0 ≤ sizeLine; decide, fun n5 hn5 => ?_⟩
        have s5 := same_new hn5 (.tup [])
        have e5 : upd G4 n5 (.tup []) n5 = some (.tup []) := upd_same
        generalize upd G4 n5 (.tup []) = G5 at s5 e5 ⊢
        refine ⟨by show 3 ≤ sizeLine; decide, fun p6 hp6 => ?_⟩
        have s6 := same_new hp6 (.tup [.str "con", .str "Bool", .ref n5])
        have e6 : upd G5 p6 (.tup [.str "con", .str "Bool", .ref n5]) p6 = some (.tup [.str "con", .str "Bool", .ref n5]) := upd_same
        generalize upd G5 p6 (.tup [.str "con", .str "Bool", .ref n5]) = G6 at s6 e6 ⊢
        refine ⟨by show 4 ≤ sizeLine; decide, fun l hl => ?_⟩
        have s7 := same_new hl (.lst [.ref p1, .ref p2, .ref p4, .ref p6])
        have e7 : upd G6 l (.lst [.ref p1, .ref p2, .ref p4, .ref p6]) l = some (.lst [.ref p1, .ref p2, .ref p4, .ref p6]) := upd_same
        generalize upd G6 l (.lst [.ref p1, .ref p2, .ref p4, .ref p6]) = G7 at s7 e7 ⊢
        have s17 : Same H1 G7 := fun b o e => s7 _ _ (s6 _ _ (s5 _ _ (s4 _ _ (s3 _ _ (s2 _ _ (s1 _ _ e))))))
        refine ⟨_, rfl, p, r, 4, rfl, by decide, d1.same s17, fun m H2 m0 m4 k2 d2 => ?_⟩
        have t2 : TK G7 H2 := tk_keep k2 (d1.same s17).notup
        have nl : l ≠ p := fun e => by
          obtain ⟨_, _, _, z, _⟩ := d1.same s17
          rw [← e, e7] at z
          cases z
        obtain ⟨v, hv, k, hk, gk⟩ := at4 (a := .ref p1) (b := .ref p2) (c := .ref p4) (d := .ref p6) m0 m4 (fun v => ∃ k : Kd, k.At H2 v ∧ Gk (d + 1) k)
          ⟨.nm "a", ⟨p1, rfl, t2 _ _ (s7 _ _ (s6 _ _ (s5 _ _ (s4 _ _ (s3 _ _ (s2 _ _ e1))))))⟩, gk_nm ok_a⟩
          ⟨.nm "b", ⟨p2, rfl, t2 _ _ (s7 _ _ (s6 _ _ (s5 _ _ (s4 _ _ (s3 _ _ e2)))))⟩, gk_nm ok_b⟩
          ⟨.cn "Int" [], ⟨p4, n3, [], rfl, t2 _ _ (s7 _ _ (s6 _ _ (s5 _ _ e4))), t2 _ _ (s7 _ _ (s6 _ _ (s5 _ _ (s4 _ _ e3)))), rfl⟩, gk_c0 ok_int⟩
          ⟨.cn "Bool" [], ⟨p6, n5, [], rfl, t2 _ _ (s7 _ _ e6), t2 _ _ (s7 _ _ (s6 _ _ e5)), rfl⟩, gk_c0 ok_bool⟩
        refine ⟨l, _, m, v, rfl, rfl, SqL.of (k2 _ _ nl e7), hv, ?_⟩
        exact q v k H2 (k1.trans ((Keep.same s17).trans k2)) d2 hk gk

    have z : decide (V.int (d : Int) = V.int 0) = false := by
      rw [dec_int, beq_eq_false_iff_ne]
      omega
    show if decide (V.int (d : Int) = V.int 0) = true then _ else _
    rw [z]
    refine iteF ?_
    refine ⟨_, rfl, _, _, rfl, rfl, _, rfl, ?_⟩
    refine ite2 (fun _ => ?_) (fun hp4 => ?_)
    · refine ⟨_, rfl, _, _, rfl, rfl, (show (0 : Int) < 2 by decide), rfl, _, rfl, ?_⟩
      refine ite2 (fun _ => ?_) (fun _ => ?_)
      · refine ⟨_, rfl, _, _, rfl, rfl, _, rfl, ?_⟩
        refine iteF ?_
        refine ⟨by show 2 ≤ sizeLine; decide, fun p1 hp1 => ?_⟩
        have s1 := same_new hp1 (.tup [.str "name", .str "a"])
        have e1 : upd H1 p1 (.tup [.str "name", .str "a"]) p1 = some (.tup [.str "name", .str "a"]) := upd_same
        generalize upd H1 p1 (.tup [.str "name", .str "a"]) = G1 at s1 e1 ⊢
        refine ⟨by show 2 ≤ sizeLine; decide, fun p2 hp2 => ?_⟩
        have s2 := same_new hp2 (.tup [.str "name", .str "b"])
        have e2 : upd G1 p2 (.tup [.str "name", .str "b"]) p2 = some (.tup [.str "name", .str "b"]) := upd_same
        generalize upd G1 p2 (.tup [.str "name", .str "b"]) = G2 at s2 e2 ⊢
        refine ⟨by show 0 ≤ sizeLine; decide, fun n3 hn3 => ?_⟩
        have s3 := same_new hn3 (.tup [])
        have e3 : upd G2 n3 (.tup []) n3 = some (.tup []) := upd_same
        generalize upd G2 n3 (.tup []) = G3 at s3 e3 ⊢
        refine ⟨by show 3 ≤ sizeLine; decide, fun p4 hp4 => ?_⟩
        have s4 := same_new hp4 (.tup [.str "con", .str "Int", .ref n3])
        have e4 : upd G3 p4 (.tup [.str "con", .str "Int", .ref n3]) p4 = some (.tup [.str "con", .str "Int", .ref n3]) := upd_same
        generalize upd G3 p4 (.tup [.str "con", .str "Int", .ref n3]) = G4 at s4 e4 ⊢
        refine ⟨by show 0 ≤ sizeLine; decide, fun n5 hn5 => ?_⟩
        have s5 := same_new hn5 (.tup [])
        have e5 : upd G4 n5 (.tup []) n5 = some (.tup []) := upd_same
        generalize upd G4 n5 (.tup []) = G5 at s5 e5 ⊢
        refine ⟨by show 3 ≤ sizeLine; decide, fun p6 hp6 => ?_⟩
        have s6 := same_new hp6 (.tup [.str "con", .str "Bool", .ref n5])
        have e6 : upd G5 p6 (.tup [.str "con", .str "Bool", .ref n5]) p6 = some (.tup [.str "con", .str "Bool", .ref n5]) := upd_same
        generalize upd G5 p6 (.tup [.str "con", .str "Bool", .ref n5]) = G6 at s6 e6 ⊢
        refine ⟨by show 4 ≤ sizeLine; decide, fun l hl => ?_⟩
        have s7 := same_new hl (.lst [.ref p1, .ref p2, .ref p4, .ref p6])
        have e7 : upd G6 l (.lst [.ref p1, .ref p2, .ref p4, .ref p6]) l = some (.lst [.ref p1, .ref p2, .ref p4, .ref p6]) := upd_same
        generalize upd G6 l (.lst [.ref p1, .ref p2, .ref p4, .ref p6]) = G7 at s7 e7 ⊢
        have s17 : Same H1 G7 := fun b o e => s7 _ _ (s6 _ _ (s5 _ _ (s4 _ _ (s3 _ _ (s2 _ _ (s1 _ _ e))))))
        refine ⟨_, rfl, p, r, 4, rfl, by decide, d1.same s17, fun m H2 m0 m4 k2 d2 => ?_⟩
        have t2 : TK G7 H2 := tk_keep k2 (d1.same s17).notup
        have nl : l ≠ p := fun e => by
          obtain ⟨_, _, _, z, _⟩ := d1.same s17
          rw [← e, e7] at z
          cases z
        obtain ⟨v, hv, k, hk, gk⟩ := at4 (a := .ref p1) (b := .ref p2) (c := .ref p4) (d := .ref p6) m0 m4 (fun v => ∃ k : Kd, k.At H2 v ∧ Gk (d + 1) k)
          ⟨.nm "a", ⟨p1, rfl, t2 _ _ (s7 _ _ (s6 _ _ (s5 _ _ (s4 _ _ (s3 _ _ (s2 _ _ e1))))))⟩, gk_nm ok_a⟩
          ⟨.nm "b", ⟨p2, rfl, t2 _ _ (s7 _ _ (s6 _ _ (s5 _ _ (s4 _ _ (s3 _ _ e2)))))⟩, gk_nm ok_b⟩
          ⟨.cn "Int" [], ⟨p4, n3, [], rfl, t2 _ _ (s7 _ _ (s6 _ _ (s5 _ _ e4))), t2 _ _ (s7 _ _ (s6 _ _ (s5 _ _ (s4 _ _ e3)))), rfl⟩, gk_c0 ok_int⟩
          ⟨.cn "Bool" [], ⟨p6, n5, [], rfl, t2 _ _ (s7 _ _ e6), t2 _ _ (s7 _ _ (s6 _ _ e5)), rfl⟩, gk_c0 ok_bool⟩
        refine ⟨l, _, m, v, rfl, rfl, SqL.of (k2 _ _ nl e7), hv, ?_⟩
        exact q v k H2 (k1.trans ((Keep.same s17).trans k2)) d2 hk gk
      · refine iteF ?_
        refine ⟨by show 2 ≤ sizeLine; decide, fun p1 hp1 => ?_⟩
        have s1 := same_new hp1 (.tup [.str "name", .str "a"])
        have e1 : upd H1 p1 (.tup [.str "name", .str "a"]) p1 = some (.tup [.str "name", .str "a"]) := upd_same
        generalize upd H1 p1 (.tup [.str "name", .str "a"]) = G1 at s1 e1 ⊢
        refine ⟨by show 2 ≤ sizeLine; decide, fun p2 hp2 => ?_⟩
        have s2 := same_new hp2 (.tup [.str "name", .str "b"])
        have e2 : upd G1 p2 (.tup [.str "name", .str "b"]) p2 = some (.tup [.str "name", .str "b"]) := upd_same
        generalize upd G1 p2 (.tup [.str "name", .str "b"]) = G2 at s2 e2 ⊢
        refine ⟨by show 0 ≤ sizeLine; decide, fun n3 hn3 => ?_⟩
        have s3 := same_new hn3 (.tup [])
        have e3 : upd G2 n3 (.tup []) n3 = some (.tup []) := upd_same
        generalize upd G2 n3 (.tup []) = G3 at s3 e3 ⊢
        refine ⟨by show 3 ≤ sizeLine; decide, fun p4 hp4 => ?_⟩
        have s4 := same_new hp4 (.tup [.str "con", .str "Int", .ref n3])
        have e4 : upd G3 p4 (.tup [.str "con", .str "Int", .ref n3]) p4 = some (.tup [.str "con", .str "Int", .ref n3]) := upd_same
        generalize upd G3 p4 (.tup [.str "con", .str "Int", .ref n3]) = G4 at s4 e4 ⊢
        refine ⟨by show 0 ≤ sizeLine; decide, fun n5 hn5 => ?_⟩
        have s5 := same_new hn5 (.tup [])
        have e5 : upd G4 n5 (.tup []) n5 = some (.tup []) := upd_same
        generalize upd G4 n5 (.tup []) = G5 at s5 e5 ⊢
        refine ⟨by show 3 ≤ sizeLine; decide, fun p6 hp6 => ?_⟩
        have s6 := same_new hp6 (.tup [.str "con", .str "Bool", .ref n5])
        have e6 : upd G5 p6 (.tup [.str "con", .str "Bool", .ref n5]) p6 = some (.tup [.str "con", .str "Bool", .ref n5]) := upd_same
        generalize upd G5 p6 (.tup [.str "con", .str "Bool", .ref n5]) = G6 at s6 e6 ⊢
        refine ⟨by show 4 ≤ sizeLine; decide, fun l hl => ?_⟩
        have s7 := same_new hl (.lst [.ref p1, .ref p2, .ref p4, .ref p6])
        have e7 : upd G6 l (.lst [.ref p1, .ref p2, .ref p4, .ref p6]) l = some (.lst [.ref p1, .ref p2, .ref p4, .ref p6]) := upd_same
        generalize upd G6 l (.lst [.ref p1, .ref p2, .ref p4, .ref p6]) = G7 at s7 e7 ⊢
        have s17 : Same H1 G7 := fun b o e => s7 _ _ (s6 _ _ (s5 _ _ (s4 _ _ (s3 _ _ (s2 _ _ (s1 _ _ e))))))
        refine ⟨_, rfl, p, r, 4, rfl, by decide, d1.same s17, fun m H2 m0 m4 k2 d2 => ?_⟩
        have t2 : TK G7 H2 := tk_keep k2 (d1.same s17).notup
        have nl : l ≠ p := fun e => by
          obtain ⟨_, _, _, z, _⟩ := d1.same s17
          rw [← e, e7] at z
          cases z
        obtain ⟨v, hv, k, hk, gk⟩ := at4 (a := .ref p1) (b := .ref p2) (c := .ref p4) (d := .ref p6) m0 m4 (fun v => ∃ k : Kd, k.At H2 v ∧ Gk (d + 1) k)
          ⟨.nm "a", ⟨p1, rfl, t2 _ _ (s7 _ _ (s6 _ _ (s5 _ _ (s4 _ _ (s3 _ _ (s2 _ _ e1))))))⟩, gk_nm ok_a⟩
          ⟨.nm "b", ⟨p2, rfl, t2 _ _ (s7 _ _ (s6 _ _ (s5 _ _ (s4 _ _ (s3 _ _ e2)))))⟩, gk_nm ok_b⟩
          ⟨.cn "Int" [], ⟨p4, n3, [], rfl, t2 _ _ (s7 _ _ (s6 _ _ (s5 _ _ e4))), t2 _ _ (s7 _ _ (s6 _ _ (s5 _ _ (s4 _ _ e3)))), rfl⟩, gk_c0 ok_int⟩
          ⟨.cn "Bool" [], ⟨p6, n5, [], rfl, t2 _ _ (s7 _ _ e6), t2 _ _ (s7 _ _ (s6 _ _ e5)), rfl⟩, gk_c0 ok_bool⟩
        refine ⟨l, _, m, v, rfl, rfl, SqL.of (k2 _ _ nl e7), hv, ?_⟩
        exact q v k H2 (k1.trans ((Keep.same s17).trans k2)) d2 hk gk

    obtain ⟨e, rfl⟩ : ∃ e, d = e + 1 := ⟨d - 1, by omega⟩
    have ed : ∀ x y : V, [x, V.int (((e + 1 : Nat) : Int) - 1), y] = [x, V.int (e : Int), y] := fun x y => by rw [show ((e + 1 : Nat) : Int) - 1 = (e : Int) by omega]
    refine ⟨_, rfl, _, _, rfl, rfl, _, rfl, ?_⟩
    refine ite2 (fun _ => ?_) (fun hp7 => ?_)
    · refine ⟨_, rfl, _, rfl, _, _, rfl, rfl, _, rfl, p, r, e, ed _ _, by omega, d1, fun v2 a2 H2 k2 d2 at2 g2 => ?_⟩
      refine ⟨_, rfl, _, rfl, _, _, rfl, rfl, _, rfl, p, r, e, ed _ _, by omega, d2, fun v3 a3 H3 k3 d3 at3 g3 => ?_⟩
      refine ⟨by show 3 ≤ sizeLine; decide, fun t ht => ?_⟩
      have t3 : TK H2 H3 := tk_keep k3 d2.notup
      have t4 : TK H3 (upd H3 t (.tup [.str "fun", v2, v3])) := tk_new ht
      exact q _ (.fn a2 a3) _ (k1.trans (k2.trans (k3.trans (Keep.same (same_new ht _))))) (d3.same (same_new ht _)) ⟨t, v2, v3, rfl, upd_same, at2.keep (t3.trans t4), at3.keep t4⟩ (gk_fn g2 g3)
    refine ⟨_, rfl, rfl, _, rfl, ?_⟩
    refine ite2 (fun _ => ?_) (fun hp8 => ?_)
    · refine ⟨_, rfl, _, rfl, _, _, rfl, rfl, _, rfl, p, r, e, ed _ _, by omega, d1, fun v2 a2 H2 k2 d2 at2 g2 => ?_⟩
      refine ⟨by show 1 ≤ sizeLine; decide, fun u hu => ?_⟩
      refine ⟨by show 3 ≤ sizeLine; decide, fun t ht => ?_⟩
      have t3 : TK H2 (upd H2 u (.tup [v2])) := tk_new hu
      have t4 : TK (upd H2 u (.tup [v2])) (upd (upd H2 u (.tup [v2])) t (.tup [.str "con", .str "List", .ref u])) := tk_new ht
      exact q _ (.cn "List" [a2]) _ (k1.trans (k2.trans ((Keep.same (same_new hu _)).trans (Keep.same (same_new ht _))))) ((d2.same (same_new hu _)).same (same_new ht _)) ⟨t, u, [v2], rfl, upd_same, t4 _ _ upd_same, v2, [], rfl, at2.keep (t3.trans t4), rfl⟩ (gk_c1 ok_list g2)
    · refine ⟨_, rfl, _, rfl, _, _, rfl, rfl, _, rfl, p, r, e, ed _ _, by omega, d1, fun v2 a2 H2 k2 d2 at2 g2 => ?_⟩
      refine ⟨_, rfl, _, rfl, _, _, rfl, rfl, _, rfl, p, r, e, ed _ _, by omega, d2, fun v3 a3 H3 k3 d3 at3 g3 => ?_⟩
      refine ⟨by show 2 ≤ sizeLine; decide, fun u hu => ?_⟩
      refine ⟨by show 3 ≤ sizeLine; decide, fun t ht => ?_⟩
      have t3 : TK H2 H3 := tk_keep k3 d2.notup
      have t4 : TK H3 (upd H3 u (.tup [v2, v3])) := tk_new hu
      have t5 : TK (upd H3 u (.tup [v2, v3])) (upd (upd H3 u (.tup [v2, v3])) t (.tup [.str "con", .str "Pair", .ref u])) := tk_new ht
      exact q _ (.cn "Pair" [a2, a3]) _ (k1.trans (k2.trans (k3.trans ((Keep.same (same_new hu _)).trans (Keep.same (same_new ht _)))))) ((d3.same (same_new hu _)).same (same_new ht _)) ⟨t, u, [v2, v3], rfl, upd_same, t5 _ _ upd_same, v2, [v3], rfl, at2.keep (t3.trans (t4.trans t5)), v3, [], rfl, at3.keep (t4.trans t5), rfl⟩ (gk_c2 ok_pair g2 g3)
end
theorem at2 (x y z : V) (l : List V) : atI (x :: y :: z :: l) 2 = some z := atI_nat (j := 2) rfl
theorem Kd.subs_app (f : Str → Kd) : ∀ a b : List Kd, Kd.subs f (a ++ b) = Kd.subs f a ++ Kd.subs f b
  | [], b => rfl
  | k :: a, b => by rw [List.cons_append, Kd.subs, Kd.subs, Kd.subs_app f a b, List.cons_append]
theorem noms_mem : ∀ {l : List Kd} {c : Kd}, Kd.noms l = true → c ∈ l → c.nom = true
  | k :: l, c, h, hc => by
    have h : (k.nom && Kd.noms l) = true := h
    rw [Bool.and_eq_true] at h
    rcases List.mem_cons.mp hc with e | e
    · rw [e]; exact h.1
    · exact noms_mem h.2 e
theorem size_mem : ∀ {l : List Kd} {c : Kd}, c ∈ l → c.size ≤ Kd.sizes l
  | k :: l, c, hc => by
    rw [Kd.sizes]
    rcases List.mem_cons.mp hc with e | e
    · rw [e]; omega
    · have := size_mem e
      omega
theorem Kd.nom_part : ∀ {k c : Kd}, c ∈ k.parts → k.nom = true → c.nom = true
  | .nm s, c, h, _ => by cases h
  | .mt i, c, h, _ => by cases h
  | .fn a b, c, h, hl => by
    have hl : (a.nom && b.nom) = true := hl
    rw [Bool.and_eq_true] at hl
    rcases List.mem_cons.mp h with e | e
    · rw [e]; exact hl.1
    · rw [List.mem_singleton.mp e]; exact hl.2
  | .cn s l, c, h, hl => noms_mem (show Kd.noms l = true from hl) h
/-- what a table of two types puts in the place of names -/
def tab (ka kb : Kd) (s : Str) : Kd := if s = "a" then ka else if s = "b" then kb else .nm s
def nkey (s : Str) : List Key := [Sum.inr "name", Sum.inr s]
theorem nkey_inj : ∀ s t : Str, nkey s = nkey t → s = t := fun s t e => by
  unfold nkey at e
  have e2 := (List.cons.inj (List.cons.inj e).2).1
  exact Sum.inr.inj e2
theorem wz (a b : Str) (h : (a == b) = false) : decide (V.str a = V.str b) = false := decide_eq_false fun e => by
  have := V.str.inj e
  rw [this, beq_self_eq_true] at h
  cases h
theorem wt (a : Str) : decide (V.str a = V.str a) = true := decide_eq_true rfl
section
variable {P : Program} {w : World} {K : PySem.W.Frag} {mg : Str → Option Value} {base : Heap}
abbrev sPut : Stmt := topS 11
theorem scPut : FnScope ["kind", "table", "part"] ["kind", "table"] (defScope sPut) := ⟨rfl, rfl, rfl, by decide +kernel, rfl, by decide +kernel, by decide +kernel⟩
def spPut (n : Nat) : Sp := fun vs H Q _ => ∃ (v va vb : V) (tb : Addr) (k ka kb : Kd), vs = [v, .ref tb] ∧ k.At H v ∧ k.dep < n ∧ k.nom = true ∧ k.size ≤ 100000 ∧ H tb = some (.dT [(nkey "a", va), (nkey "b", vb)]) ∧ ka.At H va ∧ kb.At H vb ∧
  ∀ (u : V) (H' : Hp), Same H H' → (k.sub (tab ka kb)).At H' u → Q u H'
theorem c_put {f : Addr} {fd : FuncData} (T : TxtT mg) (F : Fun K "_law_put" "_law_put" sPut f fd) (b : Binds K fd ["kind", "table"] []) (hm : mg "_law_put" = some (.ref f)) : ∀ n : Nat, C8.Cal P w K mg base (n + 2) "_law_put" (spPut n) []
  | 0 => cal_none F hm b fun vs H Q E ⟨v, va, vb, tb, k, ka, kb, _, _, h, _⟩ => Nat.not_lt_zero _ h
  | n + 1 => by
    have c_law_put := c_put T F b hm n
    refine cal_of F hm b scPut (fun vs H Q E h => ?_) (fun cdv A outer s H vs Q E hr h => ?_)
    · obtain ⟨v, va, vb, tb, k, ka, kb, rfl, _⟩ := h
      rfl
    obtain ⟨v, va, vb, tb, k, ka, kb, rfl, hk, hdn, hnom, hsz, htb, hka, hkb, q⟩ := h
    have hu := hu_of hr
    refine ⟨_, (pss_cons (ps_if (pt_cmpR op_eq (pe_ix ix_tup (pv 0) pe_int (fun _ _ => rfl)) pe_str (nomark _))
      (pss_one (ps_ret (pe_tup (pa_cons pe_str (pa_cons (pe_ix ix_tup (pv 0) pe_int (fun _ _ => rfl)) (pa_cons (pe_callTy call_tuple_of rfl T.ztuple boot_tuple (pa_cons (pe_lc (own := [("part", 2)]) (g := gName 2) (tt := tYes) rfl scPut.nd (pi_tup (pe_ix ix_tup (pv 0) pe_int (fun _ _ => rfl))) (blkOk_by (own := [("part", 2)]) (N := ["kind", "table", "part"]) (sc := defScope sPut) (by decide +kernel)) (fun _ _ _ _ _ => (pg_name (i := 2) scPut.nd rfl (Or.inl rfl))) (fun _ _ _ _ _ => pts_nil) (fun _ _ _ _ _ => (C8.pe_c c_law_put hr (by omega) rfl (pa_cons (pv 2) (pa_cons (pv 1) pa_nil))))) pa_nil)) pa_nil))))))
      pss_nil)
    (pss_cons (ps_if (pt_cmpR op_eq (pe_ix ix_tup (pv 0) pe_int (fun _ _ => rfl)) pe_str (nomark _))
      (pss_one (ps_ret (pe_tup (pa_cons pe_str (pa_cons (C8.pe_c c_law_put hr (by omega) rfl (pa_cons (pe_ix ix_tup (pv 0) pe_int (fun _ _ => rfl)) (pa_cons (pv 1) pa_nil))) (pa_cons (C8.pe_c c_law_put hr (by omega) rfl (pa_cons (pe_ix ix_tup (pv 0) pe_int (fun _ _ => rfl)) (pa_cons (pv 1) pa_nil))) pa_nil))))))
      pss_nil)
    (pss_one (ps_ret (pe_dget2 hu (pv 1) (pv 0) (pv 0) ⟨rfl, rfl, rfl, rfl⟩))))), ?_⟩
    cases k with
    | mt i => cases hnom
    | nm s =>
      obtain ⟨a, rfl, ha⟩ := hk
      refine ⟨_, rfl, a, _, 0, .str "name", rfl, rfl, SqT.of ha, at0 _ _, rfl, _, rfl, ?_⟩
      show if decide (V.str "name" = V.str "con") = true then _ else _
      rw [wz _ _ sne5]
      refine iteF ?_
      refine ⟨_, rfl, a, _, 0, .str "name", rfl, rfl, SqT.of ha, at0 _ _, rfl, _, rfl, ?_⟩
      show if decide (V.str "name" = V.str "fun") = true then _ else _
      rw [wz _ _ sne3]
      refine iteF ?_
      refine ⟨_, rfl, tb, rfl, .inr ⟨_, .inl htb⟩, _, rfl, _, rfl, _, DGet.t (k := nkey s) htb ha, ?_⟩
      by_cases ea : s = "a"
      · subst ea
        rw [valV_pos rfl]
        refine q va H (fun _ _ e => e) ?_
        show (tab ka kb "a").At H va
        rw [tab, if_pos rfl]
        exact hka
      · rw [valV_neg (fun e => ea (nkey_inj _ _ e).symm)]
        by_cases eb : s = "b"
        · subst eb
          rw [valV_pos rfl]
          refine q vb H (fun _ _ e => e) ?_
          show (tab ka kb "b").At H vb
          rw [tab, if_neg ea, if_pos rfl]
          exact hkb
        · rw [valV_neg (fun e => eb (nkey_inj _ _ e).symm), valV_nil]
          refine q (.ref a) H (fun _ _ e => e) ?_
          show (tab ka kb s).At H (.ref a)
          rw [tab, if_neg ea, if_neg eb]
          exact ⟨a, rfl, ha⟩
    | fn k1 k2 =>
      obtain ⟨a, x, y, rfl, ha, hx, hy⟩ := hk
      have hd1 : k1.dep < n := by
        have : (Kd.fn k1 k2).dep = 1 + max k1.dep k2.dep := rfl
        omega
      have hd2 : k2.dep < n := by
        have : (Kd.fn k1 k2).dep = 1 + max k1.dep k2.dep := rfl
        omega
      have hs1 : k1.size ≤ 100000 := by
        have z : (Kd.fn k1 k2).size = 1 + k1.size + k2.size := rfl
        omega
      have hs2 : k2.size ≤ 100000 := by
        have z : (Kd.fn k1 k2).size = 1 + k1.size + k2.size := rfl
        omega
      have hn : k1.nom = true ∧ k2.nom = true := by
        have z : (k1.nom && k2.nom) = true := hnom
        rwa [Bool.and_eq_true] at z
      refine ⟨_, rfl, a, _, 0, .str "fun", rfl, rfl, SqT.of ha, at0 _ _, rfl, _, rfl, ?_⟩
      show if decide (V.str "fun" = V.str "con") = true then _ else _
      rw [wz _ _ sne11]
      refine iteF ?_
      refine ⟨_, rfl, a, _, 0, .str "fun", rfl, rfl, SqT.of ha, at0 _ _, rfl, _, rfl, ?_⟩
      show if decide (V.str "fun" = V.str "fun") = true then _ else _
      rw [wt]
      refine iteT ?_
      refine ⟨_, rfl, a, _, 1, x, rfl, rfl, SqT.of ha, at1 _ _ _, _, rfl, x, va, vb, tb, k1, ka, kb, rfl, hx, hd1, hn.1, hs1, htb, hka, hkb, fun u1 H1 s1 at1' => ?_⟩
      have t1 : TK H H1 := tk_same s1
      refine ⟨_, rfl, a, _, 2, y, rfl, rfl, SqT.of (s1 _ _ ha), at2 _ _ _ _, _, rfl, y, va, vb, tb, k2, ka, kb, rfl, hy.keep t1, hd2, hn.2, hs2, s1 _ _ htb, hka.keep t1, hkb.keep t1, fun u2 H2 s2 at2' => ?_⟩
      have t2 : TK H1 H2 := tk_same s2
      refine ⟨by show 3 ≤ sizeLine; decide, fun t ht => ?_⟩
      have t3 : TK H2 (upd H2 t (.tup [.str "fun", u1, u2])) := tk_new ht
      exact q _ _ (fun b o e => same_new ht _ _ _ (s2 _ _ (s1 _ _ e))) ⟨t, u1, u2, rfl, upd_same, at1'.keep (t2.trans t3), at2'.keep t3⟩
    | cn s l =>
      obtain ⟨a, c, xs, rfl, ha, hc, hats⟩ := hk
      refine ⟨_, rfl, a, _, 0, .str "con", rfl, rfl, SqT.of ha, at0 _ _, rfl, _, rfl, ?_⟩
      show if decide (V.str "con" = V.str "con") = true then _ else _
      rw [wt]
      refine iteT ?_
      refine ⟨_, rfl, a, _, 1, .str s, rfl, rfl, SqT.of ha, at1 _ _ _, _, rfl, a, _, 2, .ref c, rfl, rfl, SqT.of ha, at2 _ _ _ _, c, rfl, ⟨_, SqT.of hc⟩, fun D hD => ?_⟩
      refine lc_tup (K := K) (a := c) (xs := xs) (fun i H2 => ∃ ys, H2 D = some (.lst ys) ∧ Same H H2 ∧ Kd.Ats H2 (Kd.subs (tab ka kb) (l.take i)) ys ∧ ys.length = i) ⟨[], upd_same, same_new hD _, rfl, rfl⟩ (fun i H2 hi ⟨ys, h1, h2, h3, h4⟩ => SqT.of (h2 _ _ hc)) ?_ ?_
      · rintro i x H2 hx ⟨ys, h1, h2, h3, h4⟩
        obtain ⟨ki, hki, hat⟩ := Kd.Ats.get i hats hx
        have kmem : ki ∈ l := List.mem_of_getElem? hki
        have t2 : TK H H2 := tk_same h2
        refine ⟨rfl, ?_⟩
        change tCall (spPut n) [] C8.E0 (tCons (tVar 2) (tCons (tVar 1) tNil)) _ _ _
        refine ⟨_, rfl, _, rfl, x, va, vb, tb, ki, ka, kb, rfl, hat.keep t2, ?_, noms_mem (show Kd.noms l = true from hnom) kmem, ?_, h2 _ _ htb, hka.keep t2, hkb.keep t2, fun u H3 s3 at3 => ?_⟩
        · have z1 := deps_mem kmem
          have z2 : (Kd.cn s l).dep = 1 + Kd.deps l := rfl
          omega
        · have z1 := size_mem kmem
          have z2 : (Kd.cn s l).size = 1 + Kd.sizes l := rfl
          omega
        · have hl1 := hats.len
          have hil : i < l.length := (List.getElem?_eq_some_iff.mp hki).1
          refine ⟨ys, s3 _ _ h1, ?_, ys ++ [u], upd_same, ?_, ?_, ?_⟩
          · have z1 := Kd.sizes_len l
            have z2 : (Kd.cn s l).size = 1 + Kd.sizes l := rfl
            exact szl (by omega)
          · exact same_upd hD (fun b o e => s3 _ _ (h2 _ _ e)) _
          · have t4 : TK H3 (upd H3 D (.lst (ys ++ [u]))) := tk_list (s3 _ _ h1)
            rw [List.take_add_one, hki, Kd.subs_app]
            exact Kd.Ats.app (h3.keep ((tk_same s3).trans t4)) ⟨u, [], rfl, at3.keep t4, rfl⟩
          · rw [List.length_append, h4]
            rfl
      · rintro H2 ⟨ys, h1, h2, h3, h4⟩
        rw [hats.len, List.take_length] at h3
        refine ⟨D, ys, rfl, .inl ⟨SqL.of h1, fun u hu2 => ?_⟩⟩
        refine ⟨by show 3 ≤ sizeLine; decide, fun t ht => ?_⟩
        have t3 : TK H2 (upd H2 u (.tup ys)) := tk_new hu2
        have t4 : TK (upd H2 u (.tup ys)) (upd (upd H2 u (.tup ys)) t (.tup [.str "con", .str s, .ref u])) := tk_new ht
        exact q _ _ (fun b o e => same_new ht _ _ _ (same_new hu2 _ _ _ (h2 _ _ e))) ⟨t, u, ys, rfl, upd_same, t4 _ _ upd_same, h3.keep (t3.trans t4)⟩
end
theorem Kd.subs_map (f : Str → Kd) : ∀ l : List Kd, Kd.subs f l = l.map (Kd.sub f)
  | [] => rfl
  | k :: l => by rw [Kd.subs, List.map_cons, Kd.subs_map f l]
structure TxtR (mg : Str → Option Value) : Prop where
  zlen : mg "len" = none
  zrange : mg "range" = none
/-- the dict of a match -/
structure FoundT (H : Hp) (fd0 : Addr) (kvs : List (List Key × V)) (σ : Sb) : Prop where
  found : H fd0 = some (.dT kvs)
  fas : FoundAs nkey H kvs σ
  gs : ∀ q ∈ σ, Gd q.2
  nodup : (σ.map (·.1)).Nodup
theorem FoundT.notup {H : Hp} {fd0 : Addr} {kvs : List (List Key × V)} {σ : Sb} (m : FoundT H fd0 kvs σ) : ∀ xs, H fd0 ≠ some (.tup xs) := fun xs e => by
  have z := m.found
  rw [e] at z
  cases z
/-- what a match tells -/
def Tells (b : Bool) (σ τ : Sb) (p k : Kd) : Prop := if b = true then ∀ f, (Fits f σ ∧ p.sub f = k) ↔ Fits f τ else ∀ f, ¬ (Fits f σ ∧ p.sub f = k)
theorem tells_no {σ τ : Sb} {p k : Kd} (h : ∀ f, p.sub f ≠ k) : Tells false σ τ p k := fun f z => h f z.2
section
variable {P : Program} {w : World} {K : PySem.W.Frag} {mg : Str → Option Value} {base : Heap}
abbrev sMatch : Stmt := topS 12
theorem scMatch : FnScope ["pattern", "kind", "word", "found", "k"] ["pattern", "kind", "word", "found"] (defScope sMatch) := ⟨rfl, rfl, rfl, by decide +kernel, rfl, by decide +kernel, by decide +kernel⟩
def spMatch (n : Nat) : Sp := fun vs H Q _ => ∃ (vp vk : V) (fd0 : Addr) (p k : Kd) (kvs : List (List Key × V)) (σ : Sb), vs = [vp, vk, .str "name", .ref fd0] ∧ p.At H vp ∧ k.At H vk ∧ p.dep < n ∧ p.nom = true ∧ Gd k ∧ FoundT H fd0 kvs σ ∧ σ.length + p.size ≤ 100000 ∧
  ∀ (b : Bool) (H' : Hp) (kvs' : List (List Key × V)) (τ : Sb), Keep fd0 H H' → FoundT H' fd0 kvs' τ → τ.length ≤ σ.length + p.size → Tells b σ τ p k → Q (.bl b) H'
theorem c_match {f : Addr} {fd : FuncData} (T : TxtT mg) (zrange : mg "range" = none) (F : Fun K "_law_match" "_law_match" sMatch f fd) (b : Binds K fd ["pattern", "kind", "word", "found"] []) (hm : mg "_law_match" = some (.ref f)) : ∀ n : Nat, C8.Cal P w K mg base (n + 2) "_law_match" (spMatch n) []
  | 0 => cal_none F hm b fun vs H Q E ⟨vp, vk, fd0, p, k, kvs, σ, _, _, _, h, _⟩ => Nat.not_lt_zero _ h
  | n + 1 => by
    have c_law_match := c_match T zrange F b hm n
    refine cal_of F hm b scMatch (fun vs H Q E h => ?_) (fun cdv A outer s H vs Q E hr h => ?_)
    · obtain ⟨vp, vk, fd0, p, k, kvs, σ, rfl, _⟩ := h
      rfl
    obtain ⟨vp, vk, fd0, p, k, kvs, σ, rfl, hp, hk, hdn, hnom, gk, hF, hsz, q⟩ := h
    have hu := hu_of hr
    have hu64 := hr.units
    have T : TxtR mg := ⟨T.zlen, zrange⟩
    refine ⟨_, (pss_cons (ps_if (pt_cmpR op_eq (pe_ix ix_tup (pv 0) pe_int (fun _ _ => rfl)) (pv 2) (nomark _))
      (C8.pss_cut (ps_if (pt_cmp (pc_dnotin hu (pv 0) (pv 3)))
      (pss_one (ps_dput hu (pv 3) (pv 0) (pv 1) rfl))
      pss_nil)
    (pss_one (ps_ret (pe_cmpR (op_eqD hu64) (pe_dget hu (pv 3) (pv 0) (fun _ _ => rfl)) (pv 1) (nomark _)))))
      pss_nil)
    (pss_cons (ps_if (pt_cmpR op_ne (pe_ix ix_tup (pv 0) pe_int (fun _ _ => rfl)) (pe_ix ix_tup (pv 1) pe_int (fun _ _ => rfl)) (nomark _))
      (pss_one (ps_ret pe_bl))
      pss_nil)
    (pss_cons (ps_if (pt_cmpR op_eq (pe_ix ix_tup (pv 0) pe_int (fun _ _ => rfl)) pe_str (nomark _))
      (pss_one (ps_ret (pe_and (C8.pe_c c_law_match hr (by omega) rfl (pa_cons (pe_ix ix_tup (pv 0) pe_int (fun _ _ => rfl)) (pa_cons (pe_ix ix_tup (pv 1) pe_int (fun _ _ => rfl)) (pa_cons (pv 2) (pa_cons (pv 3) pa_nil))))) (pe_one (C8.pe_c c_law_match hr (by omega) rfl (pa_cons (pe_ix ix_tup (pv 0) pe_int (fun _ _ => rfl)) (pa_cons (pe_ix ix_tup (pv 1) pe_int (fun _ _ => rfl)) (pa_cons (pv 2) (pa_cons (pv 3) pa_nil)))))))))
      pss_nil)
    (pss_cons (ps_if (pt_cmpR op_ne (pe_ix ix_tup (pv 0) pe_int (fun _ _ => rfl)) pe_str (nomark _))
      (pss_one (ps_ret (pe_cmpR (op_eqD hu64) (pv 0) (pv 1) (nomark _))))
      pss_nil)
    (pss_cons (ps_if (PW.pt (pw_or (pt_cmpR op_ne (pe_ix ix_tup (pv 0) pe_int (fun _ _ => rfl)) (pe_ix ix_tup (pv 1) pe_int (fun _ _ => rfl)) (nomark _)) (pw_or1 (pt_cmpR op_ne (pe_callB call_len_seq rfl T.zlen PySem.boot_len (pa_cons (pe_ix ix_tup (pv 0) pe_int (fun _ _ => rfl)) pa_nil)) (pe_callB call_len_seq rfl T.zlen PySem.boot_len (pa_cons (pe_ix ix_tup (pv 1) pe_int (fun _ _ => rfl)) pa_nil)) (nomark _)))))
      (pss_one (ps_ret pe_bl))
      pss_nil)
    (pss_cons (ps_for PassesOwn.never rfl (pi_range1 rfl T.zrange (pa_cons (pe_callB call_len_seq rfl T.zlen PySem.boot_len (pa_cons (pe_ix ix_tup (pv 0) pe_int (fun _ _ => rfl)) pa_nil)) pa_nil)) (pg_name (i := 4) scMatch.nd rfl (Or.inl rfl))
      (pss_one (ps_if (pt_not (pt_val (C8.pe_c c_law_match hr (by omega) rfl (pa_cons (pe_ix ix_tup (pe_ix ix_tup (pv 0) pe_int (fun _ _ => rfl)) (pv 4) (fun _ _ => rfl)) (pa_cons (pe_ix ix_tup (pe_ix ix_tup (pv 1) pe_int (fun _ _ => rfl)) (pv 4) (fun _ _ => rfl)) (pa_cons (pv 2) (pa_cons (pv 3) pa_nil)))))))
      (pss_one (ps_ret pe_bl))
      pss_nil)))
    (pss_one (ps_ret pe_bl)))))))), ?_⟩
    obtain ⟨c, ys, rfl, hc⟩ := hk.tup
    have stop : ∀ σ' : List (Option V), (∀ f, p.sub f ≠ k) → Q (.bl false) H := fun _ h => q false H kvs σ (Keep.same fun _ _ e => e) hF (by omega) (tells_no h)
    cases p with
    | mt i => cases hnom
    | nm s =>
      obtain ⟨a, rfl, ha⟩ := hp
      refine ⟨_, rfl, a, _, 0, .str "name", rfl, rfl, SqT.of ha, at0 _ _, _, rfl, rfl, _, rfl, ?_⟩
      show if decide (V.str "name" = V.str "name") = true then _ else _
      rw [wt]
      refine iteT ?_
      refine ⟨fun σ' H4 => σ' = [some (.ref a), some (.ref c), some (.str "name"), some (.ref fd0), none] ∧ ∃ kvs' τ m v, Keep fd0 H H4 ∧ FoundT H4 fd0 kvs' τ ∧ τ.length ≤ σ.length + 1 ∧ valV kvs' (nkey s) = some v ∧ m.At H4 v ∧ Gd m ∧ ((τ = σ ∧ σ.lookup s = some m) ∨ (τ = σ ++ [(s, k)] ∧ m = k)), ?_, ?_⟩
      · refine ⟨_, rfl, _, rfl, fd0, _, rfl, DGet.t (k := nkey s) hF.found ha, _, rfl, ?_⟩
        rcases hF.fas.look nkey_inj s with ⟨l1, e⟩ | ⟨m, v, l1, l2, hm⟩
        · rw [e]
          refine iteT ?_
          refine ⟨_, rfl, _, rfl, _, rfl, fd0, _, rfl, DPut.t (k := nkey s) hF.found ha ?_, ?_⟩
          · have := hF.fas.len
            exact szl (by omega)
          · rw [putK_new _ e]
            have t4 : TK H (upd H fd0 (.dT (kvs ++ [(nkey s, .ref c)]))) := tk_dictT hF.found
            refine ⟨rfl, kvs ++ [(nkey s, .ref c)], σ ++ [(s, k)], k, .ref c, fun b o n e => by rw [upd_ne n]; exact e, ⟨upd_same, (hF.fas.keep t4).add (hk.keep t4), fun q hq => ?_, nodup_add hF.nodup l1⟩, by rw [List.length_append]; exact Nat.le_refl _, ?_, hk.keep t4, gk, .inr ⟨rfl, rfl⟩⟩
            · rcases List.mem_append.mp hq with h | h
              · exact hF.gs q h
              · rw [List.mem_singleton.mp h]; exact gk
            · rw [valV_snoc _ _ _ _ e, if_pos rfl]
        · rw [l2]
          refine iteF ?_
          exact ⟨rfl, kvs, σ, m, v, Keep.same fun _ _ e => e, hF, Nat.le_succ _, l2, hm, hF.gs _ (mem_of_look l1), .inl ⟨rfl, l1⟩⟩
      · rintro σ' H4 ⟨rfl, kvs', τ, m, v, k4, hF4, hl4, hv, hm, gm, hrel⟩
        have t4 : TK H H4 := tk_keep k4 hF.notup
        refine ⟨_, rfl, _, rfl, fd0, v, rfl, hv ▸ DGet.t (k := nkey s) hF4.found (t4 _ _ ha), _, rfl, m.D, k.D, hm.dp, (hk.keep t4).dp, gm.shaped, gk.shaped, ?_⟩
        refine q _ H4 kvs' τ k4 hF4 hl4 ?_
        rcases hrel with ⟨e1, e2⟩ | ⟨e1, e2⟩
        · subst e1
          by_cases em : m = k
          · rw [(Kd.eqv_iff m k).mpr em]
            intro f
            exact ⟨fun h => h.1, fun h => ⟨h, by rw [Kd.sub, look_fits e2 h, em]⟩⟩
          · have z : PyData.eqv m.D k.D = false := by
              cases h : PyData.eqv m.D k.D with
              | false => rfl
              | true => exact (em ((Kd.eqv_iff m k).mp h)).elim
            rw [z]
            intro f h
            have h2 := h.2
            rw [Kd.sub, look_fits e2 h.1] at h2
            exact em h2
        · subst e1
          rw [e2, (Kd.eqv_iff k k).mpr rfl]
          intro f
          exact fits_add.symm
    | fn p1 p2 =>
      obtain ⟨a, x, y, rfl, ha, hx, hy⟩ := hp
      refine ⟨_, rfl, a, _, 0, .str "fun", rfl, rfl, SqT.of ha, at0 _ _, _, rfl, rfl, _, rfl, ?_⟩
      show if decide (V.str "fun" = V.str "name") = true then _ else _
      rw [wz _ _ sne4]
      refine iteF ?_
      refine ⟨_, rfl, a, _, 0, .str "fun", rfl, rfl, SqT.of ha, at0 _ _, _, rfl, c, _, 0, .str k.word, rfl, rfl, SqT.of hc, at0 _ _, rfl, _, rfl, ?_⟩
      by_cases hw : (Kd.fn p1 p2).word = k.word
      · have z : (!decide (V.str "fun" = V.str k.word)) = false := by rw [← hw]; rfl
        show if (!decide (V.str "fun" = V.str k.word)) = true then _ else _
        rw [z]
        refine iteF ?_
        refine ⟨_, rfl, a, _, 0, .str "fun", rfl, rfl, SqT.of ha, at0 _ _, rfl, _, rfl, ?_⟩
        show if decide (V.str "fun" = V.str "fun") = true then _ else _
        rw [wt]
        refine iteT ?_
        cases k with
        | fn k1 k2 =>
          obtain ⟨_, x2, y2, e, hc', hx2, hy2⟩ := hk
          cases e
          have es : (Kd.fn p1 p2).size = 1 + p1.size + p2.size := rfl
          have ed : (Kd.fn p1 p2).dep = 1 + max p1.dep p2.dep := rfl
          have hn : p1.nom = true ∧ p2.nom = true := by
            have z : (p1.nom && p2.nom) = true := hnom
            rwa [Bool.and_eq_true] at z
          have g1 : Gd k1 := gk.part (List.mem_cons_self ..)
          have g2 : Gd k2 := gk.part (List.mem_cons_of_mem _ (List.mem_singleton.mpr rfl))
          refine ⟨_, rfl, a, _, 1, x, rfl, rfl, SqT.of ha, at1 _ _ _, _, rfl, c, _, 1, x2, rfl, rfl, SqT.of hc', at1 _ _ _, _, rfl, _, rfl, x, x2, fd0, p1, k1, kvs, σ, rfl, hx, hx2, by omega, hn.1, g1, hF, by omega, fun b1 H1 kvs1 τ1 kp1 F1 l1 tl1 => ⟨b1, rfl, ?_⟩⟩
          have t1 : TK H H1 := tk_keep kp1 hF.notup
          cases b1 with
          | false =>
            refine iteF ?_
            refine q false H1 kvs1 τ1 kp1 F1 (by omega) fun f z => tl1 f ⟨z.1, ?_⟩
            have z2 : Kd.fn (p1.sub f) (p2.sub f) = Kd.fn k1 k2 := z.2
            injection z2
          | true =>
            refine iteT ?_
            refine ⟨_, rfl, a, _, 2, y, rfl, rfl, SqT.of (t1 _ _ ha), at2 _ _ _ _, _, rfl, c, _, 2, y2, rfl, rfl, SqT.of (t1 _ _ hc'), at2 _ _ _ _, _, rfl, _, rfl, y, y2, fd0, p2, k2, kvs1, τ1, rfl, hy.keep t1, hy2.keep t1, by omega, hn.2, g2, F1, by omega, fun b2 H2 kvs2 τ2 kp2 F2 l2 tl2 => ?_⟩
            refine q b2 H2 kvs2 τ2 (kp1.trans kp2) F2 (by omega) ?_
            cases b2 with
            | false =>
              intro f z
              have z2 : Kd.fn (p1.sub f) (p2.sub f) = Kd.fn k1 k2 := z.2
              injection z2 with e1 e2
              exact tl2 f ⟨(tl1 f).mp ⟨z.1, e1⟩, e2⟩
            | true =>
              intro f
              constructor
              · intro z
                have z2 : Kd.fn (p1.sub f) (p2.sub f) = Kd.fn k1 k2 := z.2
                injection z2 with e1 e2
                exact (tl2 f).mp ⟨(tl1 f).mp ⟨z.1, e1⟩, e2⟩
              · intro z
                obtain ⟨z1, e2⟩ := (tl2 f).mpr z
                obtain ⟨z0, e1⟩ := (tl1 f).mpr z1
                exact ⟨z0, by rw [Kd.sub, e1, e2]⟩
        | _ => exact absurd (Kd.word_tag hw) (by simp [Kd.tag])
      · have z : (!decide (V.str "fun" = V.str k.word)) = true := by rw [show decide (V.str "fun" = V.str k.word) = false from decide_eq_false (fun e => hw (V.str.inj e))]; rfl
        show if (!decide (V.str "fun" = V.str k.word)) = true then _ else _
        rw [z]
        refine iteT ?_
        exact stop [] fun f e => hw (by rw [← e]; rfl)
    | cn s l =>
      obtain ⟨a, a2, xs, rfl, ha, ha2, hats⟩ := hp
      refine ⟨_, rfl, a, _, 0, .str "con", rfl, rfl, SqT.of ha, at0 _ _, _, rfl, rfl, _, rfl, ?_⟩
      show if decide (V.str "con" = V.str "name") = true then _ else _
      rw [wz _ _ sne6]
      refine iteF ?_
      refine ⟨_, rfl, a, _, 0, .str "con", rfl, rfl, SqT.of ha, at0 _ _, _, rfl, c, _, 0, .str k.word, rfl, rfl, SqT.of hc, at0 _ _, rfl, _, rfl, ?_⟩
      by_cases hw : (Kd.cn s l).word = k.word
      · have z : (!decide (V.str "con" = V.str k.word)) = false := by rw [← hw]; rfl
        show if (!decide (V.str "con" = V.str k.word)) = true then _ else _
        rw [z]
        refine iteF ?_
        refine ⟨_, rfl, a, _, 0, .str "con", rfl, rfl, SqT.of ha, at0 _ _, rfl, _, rfl, ?_⟩
        show if decide (V.str "con" = V.str "fun") = true then _ else _
        rw [wz _ _ sne12]
        refine iteF ?_
        refine ⟨_, rfl, a, _, 0, .str "con", rfl, rfl, SqT.of ha, at0 _ _, rfl, _, rfl, ?_⟩
        show if (!decide (V.str "con" = V.str "con")) = true then _ else _
        rw [wt]
        refine iteF ?_
        cases k with
        | cn t m =>
          obtain ⟨_, c2, zs, e, hc', hc2, hats2⟩ := hk
          cases e
          have es : (Kd.cn s l).size = 1 + Kd.sizes l := rfl
          have ed : (Kd.cn s l).dep = 1 + Kd.deps l := rfl
          have ll := Kd.sizes_len l
          have l1 := hats.len
          have l2 := hats2.len
          refine ⟨_, rfl, a, _, 1, .str s, rfl, rfl, SqT.of ha, at1 _ _ _, _, rfl, c, _, 1, .str t, rfl, rfl, SqT.of hc', at1 _ _ _, rfl, _, rfl, ?_⟩
          by_cases est : s = t
          · subst est
            have z : (!decide (V.str s = V.str s)) = false := by rw [wt]; rfl
            show if (!decide (V.str s = V.str s)) = true then _ else _
            rw [z]
            refine iteF ?_
            refine ⟨_, rfl, a, _, 2, .ref a2, rfl, rfl, SqT.of ha, at2 _ _ _ _, a2, xs, rfl, .inr (SqT.of ha2), _, rfl, c, _, 2, .ref c2, rfl, rfl, SqT.of hc', at2 _ _ _ _, c2, zs, rfl, .inr (SqT.of hc2), rfl, _, rfl, ?_⟩
            have z2 : (!decide (V.int (xs.length : Int) = V.int (zs.length : Int))) = !decide (l.length = m.length) := by
              rw [dec_int, l1, l2]
              congr 1
              rw [Bool.eq_iff_iff, beq_iff_eq, decide_eq_true_eq]
              omega
            show if (!decide (V.int (xs.length : Int) = V.int (zs.length : Int))) = true then _ else _
            rw [z2]
            by_cases hlen : l.length = m.length
            · have z3 : (!decide (l.length = m.length)) = false := by rw [hlen]; simp
              rw [z3]
              refine iteF ?_
              refine ⟨_, rfl, a, _, 2, .ref a2, rfl, rfl, SqT.of ha, at2 _ _ _ _, a2, xs, rfl, .inr (SqT.of ha2), _, rfl, ?_, ?_, for_range
                (fun (i : Nat) σ' H2 => ∃ (kk : Option V) (kvs2 : List (List Key × V)) (τ : Sb), σ' = [some (.ref a), some (.ref c), some (.str "name"), some (.ref fd0), kk] ∧ Keep fd0 H H2 ∧ FoundT H2 fd0 kvs2 τ ∧ τ.length ≤ σ.length + Kd.sizes (l.take i) ∧ ∀ f, (Fits f σ ∧ Kd.subs f (l.take i) = m.take i) ↔ Fits f τ)
                ⟨none, kvs, σ, rfl, Keep.same fun _ _ e => e, hF, Nat.le_add_right _ _, fun f => ⟨fun h => h.1, fun h => ⟨h, rfl⟩⟩⟩ ?_ ?_⟩
              · omega
              · rw [l1]
                omega
              · rintro i σ' H2 hi ⟨kk, kvs2, τ, rfl, kp2, F2, lt2, ht2⟩
                have hil : i < l.length := by omega
                have him : i < m.length := by omega
                have hix : i < xs.length := by omega
                have hiz : i < zs.length := by omega
                have t2 : TK H H2 := tk_keep kp2 hF.notup
                obtain ⟨ki, hki, hat⟩ := Kd.Ats.get i hats (List.getElem?_eq_getElem hix)
                obtain ⟨mi, hmi, hat2⟩ := Kd.Ats.get i hats2 (List.getElem?_eq_getElem hiz)
                have kmem : ki ∈ l := List.mem_of_getElem? hki
                have mmem : mi ∈ m := List.mem_of_getElem? hmi
                have tks : ∀ f, Kd.subs f (l.take (i + 1)) = Kd.subs f (l.take i) ++ [ki.sub f] := fun f => by
                  rw [List.take_add_one, hki, Kd.subs_app]
                  rfl
                have tkm : m.take (i + 1) = m.take i ++ [mi] := by rw [List.take_add_one, hmi]; rfl
                have tksz : Kd.sizes (l.take (i + 1)) = Kd.sizes (l.take i) + ki.size := by
                  rw [List.take_add_one, hki, Kd.sizes_app]
                  show _ + Kd.sizes [ki] = _
                  rw [Kd.sizes, Kd.sizes, Nat.add_zero]
                have tkle : Kd.sizes (l.take (i + 1)) ≤ Kd.sizes l := by
                  have z := Kd.sizes_app (l.take (i + 1)) (l.drop (i + 1))
                  rw [List.take_append_drop] at z
                  omega
                have szi := size_mem kmem
                have dpi := deps_mem kmem
                refine ⟨_, rfl, a, _, 2, .ref a2, rfl, rfl, SqT.of (t2 _ _ ha), at2 _ _ _ _, _, rfl, a2, xs, _, xs[i], rfl, rfl, SqT.of (t2 _ _ ha2), at_ok hix, _, rfl, c, _, 2, .ref c2, rfl, rfl, SqT.of (t2 _ _ hc'), at2 _ _ _ _, _, rfl, c2, zs, _, zs[i], rfl, rfl, SqT.of (t2 _ _ hc2), at_ok hiz, _, rfl, _, rfl,
                  xs[i], zs[i], fd0, ki, mi, kvs2, τ, rfl, hat.keep t2, hat2.keep t2, by omega, noms_mem (show Kd.noms l = true from hnom) kmem, gk.part (show mi ∈ (Kd.cn s m).parts from mmem), F2, by omega, fun b3 H3 kvs3 τ3 kp3 F3 l3 tl3 => ⟨b3, rfl, ?_⟩⟩
                cases b3 with
                | false =>
                  refine iteT ?_
                  refine q false H3 kvs3 τ3 (kp2.trans kp3) F3 (by omega) fun f z => ?_
                  have z2 : Kd.cn s (Kd.subs f l) = Kd.cn s m := z.2
                  injection z2 with _ e3
                  have pre : Kd.subs f (l.take i) = m.take i := by
                    rw [← e3, Kd.subs_map, Kd.subs_map, List.map_take]
                  have one : ki.sub f = mi := by
                    have e4 : (Kd.subs f l)[i]? = some (ki.sub f) := by
                      rw [Kd.subs_map, List.getElem?_map, hki]
                      rfl
                    rw [e3, hmi] at e4
                    exact (Option.some.inj e4).symm
                  exact tl3 f ⟨(ht2 f).mp ⟨z.1, pre⟩, one⟩
                | true =>
                  refine iteF ?_
                  refine ⟨_, kvs3, τ3, rfl, kp2.trans kp3, F3, by omega, fun f => ?_⟩
                  rw [tks f, tkm]
                  constructor
                  · rintro ⟨z1, z2⟩
                    have z3 := List.append_inj' z2 rfl
                    exact (tl3 f).mp ⟨(ht2 f).mp ⟨z1, z3.1⟩, (List.cons.inj z3.2).1⟩
                  · intro z
                    obtain ⟨z1, z2⟩ := (tl3 f).mpr z
                    obtain ⟨z3, z4⟩ := (ht2 f).mpr z1
                    exact ⟨z3, by rw [z4, z2]⟩
              · rintro σ' H2 ⟨kk, kvs2, τ, rfl, kp2, F2, lt2, ht2⟩
                have el : (xs.length : Int).toNat = l.length := by omega
                rw [el, List.take_length] at lt2
                refine q true H2 kvs2 τ kp2 F2 (by omega) fun f => ?_
                have z := ht2 f
                rw [el, List.take_length, hlen, List.take_length] at z
                rw [← z, Kd.sub]
                exact ⟨fun h => ⟨h.1, by have h2 := h.2; injection h2⟩, fun h => ⟨h.1, by rw [h.2]⟩⟩
            · have z3 : (!decide (l.length = m.length)) = true := by rw [decide_eq_false hlen]; rfl
              rw [z3]
              refine iteT ?_
              exact stop [] fun f e => hlen (by
                have e2 : Kd.cn s (Kd.subs f l) = Kd.cn s m := e
                injection e2 with _ e3
                rw [← e3, Kd.subs_len])
          · have z : (!decide (V.str s = V.str t)) = true := by rw [decide_eq_false (fun e => est (V.str.inj e))]; rfl
            show if (!decide (V.str s = V.str t)) = true then _ else _
            rw [z]
            refine iteT (iteT ?_)
            exact stop [] fun f e => est (by
              have e2 : Kd.cn s (Kd.subs f l) = Kd.cn t m := e
              injection e2)
        | _ => exact absurd (Kd.word_tag hw) (by simp [Kd.tag])
      · have z : (!decide (V.str "con" = V.str k.word)) = true := by rw [show decide (V.str "con" = V.str k.word) = false from decide_eq_false (fun e => hw (V.str.inj e))]; rfl
        show if (!decide (V.str "con" = V.str k.word)) = true then _ else _
        rw [z]
        refine iteT ?_
        exact stop [] fun f e => hw (by rw [← e]; rfl)
abbrev sChange : Stmt := topS 13
theorem scChange : FnScope ["draws", "kind"] ["draws", "kind"] (defScope sChange) := ⟨rfl, rfl, rfl, by decide +kernel, rfl, by decide +kernel, by decide +kernel⟩
theorem cut1 (x : V) (ys : List V) : cutV (x :: ys) (some 1) none = ys := by
  unfold cutV
  rw [show (1 : Int) = ((1 : Nat) : Int) from rfl, HT.sIx_nat, HT.sIx_none, List.length_cons, show min 1 (ys.length + 1) = 1 by omega, List.drop_succ_cons, List.drop_zero]
  exact List.take_of_length_le (by omega)
/-- some good type comes back -/
def spChange (n : Nat) : Sp := fun vs H Q _ => ∃ (p r : Addr) (v : V) (k : Kd), vs = [.ref p, v] ∧ k.At H v ∧ k.lay = true ∧ k.dep < n ∧ k.size ≤ 100000 ∧ DrawsAt H p r ∧ ∀ (u : V) (m : Kd) (H' : Hp), Keep p H H' → DrawsAt H' p r → m.At H' u → m.lay = true → m.dep ≤ k.dep + 3 → Q u H'
theorem c_change {f : Addr} {fd : FuncData} (T : TxtT mg) (c_law_next : C8.Cal P w K mg base 2 "_law_next" spNext []) (c_law_kind : C8.Cal P w K mg base 4 "_law_kind" (spKind 2) []) (F : Fun K "_law_change" "_law_change" sChange f fd) (b : Binds K fd ["draws", "kind"] []) (hm : mg "_law_change" = some (.ref f)) : ∀ n : Nat, C8.Cal P w K mg base (n + 4) "_law_change" (spChange n) []
  | 0 => cal_none F hm b fun vs H Q E ⟨p, r, v, k, _, _, _, h, _⟩ => Nat.not_lt_zero _ h
  | n + 1 => by
    have c_law_change := c_change T c_law_next c_law_kind F b hm n
    refine cal_of F hm b scChange (fun vs H Q E h => ?_) (fun cdv A outer s H vs Q E hr h => ?_)
    · obtain ⟨p, r, v, k, rfl, _⟩ := h
      rfl
    obtain ⟨p, r, v, k, rfl, hk, hlay, hdn, hsz0, hD, q⟩ := h
    refine ⟨_, (pss_cons (ps_if (PW.pt (pw_and (pt_cmpR op_eq (pe_ix ix_tup (pv 1) pe_int (fun _ _ => rfl)) pe_str (nomark _)) (pw_and1 (pt_cmpR op_gt (C8.pe_c c_law_next hr (by omega) rfl (pa_cons (pv 0) (pa_cons pe_int pa_nil))) pe_int (nomark _)))))
      (pss_cons (ps_if (pt_cmpR op_eq (C8.pe_c c_law_next hr (by omega) rfl (pa_cons (pv 0) (pa_cons pe_int pa_nil))) pe_int (nomark _))
      (pss_one (ps_ret (pe_tup (pa_cons pe_str (pa_cons (C8.pe_c c_law_change hr (by omega) rfl (pa_cons (pv 0) (pa_cons (pe_ix ix_tup (pv 1) pe_int (fun _ _ => rfl)) pa_nil))) (pa_cons (pe_ix ix_tup (pv 1) pe_int (fun _ _ => rfl)) pa_nil))))))
      pss_nil)
    (pss_one (ps_ret (pe_tup (pa_cons pe_str (pa_cons (pe_ix ix_tup (pv 1) pe_int (fun _ _ => rfl)) (pa_cons (C8.pe_c c_law_change hr (by omega) rfl (pa_cons (pv 0) (pa_cons (pe_ix ix_tup (pv 1) pe_int (fun _ _ => rfl)) pa_nil))) pa_nil)))))))
      pss_nil)
    (pss_cons (ps_if (PW.pt (pw_and (pt_cmpR op_eq (pe_ix ix_tup (pv 1) pe_int (fun _ _ => rfl)) pe_str (nomark _)) (pw_and (pt_cmpR op_gt (pe_callB call_len_seq rfl T.zlen PySem.boot_len (pa_cons (pe_ix ix_tup (pv 1) pe_int (fun _ _ => rfl)) pa_nil)) pe_int (nomark _)) (pw_and1 (pt_cmpR op_gt (C8.pe_c c_law_next hr (by omega) rfl (pa_cons (pv 0) (pa_cons pe_int pa_nil))) pe_int (nomark _))))))
      (pss_one (ps_ret (pe_tup (pa_cons pe_str (pa_cons (pe_ix ix_tup (pv 1) pe_int (fun _ _ => rfl)) (pa_cons (pe_op op_catA (pe_tup (pa_cons (C8.pe_c c_law_change hr (by omega) rfl (pa_cons (pv 0) (pa_cons (pe_ix ix_tup (pe_ix ix_tup (pv 1) pe_int (fun _ _ => rfl)) pe_int (fun _ _ => rfl)) pa_nil))) pa_nil)) (pe_slice sl_tupA (pe_ix ix_tup (pv 1) pe_int (fun _ _ => rfl)) (po_some pe_int) po_none)) pa_nil))))))
      pss_nil)
    (pss_one (ps_ret (C8.pe_c c_law_kind hr (by omega) rfl (pa_cons (pv 0) (pa_cons pe_int (pa_cons pe_int pa_nil)))))))), ?_⟩
    cases k with
    | nm s =>
      obtain ⟨a, rfl, ha⟩ := hk
      refine ⟨_, rfl, a, _, 0, .str "name", rfl, rfl, SqT.of ha, at0 _ _, rfl, _, rfl, ?_⟩
      show if decide (V.str "name" = V.str "fun") = true then _ else _
      rw [wz _ _ sne3]
      refine iteF (iteF ?_)
      refine ⟨_, rfl, a, _, 0, .str "name", rfl, rfl, SqT.of ha, at0 _ _, rfl, _, rfl, ?_⟩
      show if decide (V.str "name" = V.str "con") = true then _ else _
      rw [wz _ _ sne5]
      refine iteF (iteF ?_)
      exact ⟨_, rfl, p, r, 1, rfl, by decide, hD, fun v m H2 k2 d2 at2 g2 => q v m H2 k2 d2 at2 g2.lay (by have := g2.dep; omega)⟩
    | mt i =>
      obtain ⟨a, rfl, ha⟩ := hk
      refine ⟨_, rfl, a, _, 0, .str "meta", rfl, rfl, SqT.of ha, at0 _ _, rfl, _, rfl, ?_⟩
      show if decide (V.str "meta" = V.str "fun") = true then _ else _
      rw [wz _ _ sne7]
      refine iteF (iteF ?_)
      refine ⟨_, rfl, a, _, 0, .str "meta", rfl, rfl, SqT.of ha, at0 _ _, rfl, _, rfl, ?_⟩
      show if decide (V.str "meta" = V.str "con") = true then _ else _
      rw [wz _ _ sne9]
      refine iteF (iteF ?_)
      exact ⟨_, rfl, p, r, 1, rfl, by decide, hD, fun v m H2 k2 d2 at2 g2 => q v m H2 k2 d2 at2 g2.lay (by have := g2.dep; omega)⟩
    | fn k1 k2 =>
      obtain ⟨a, x, y, rfl, ha, hx, hy⟩ := hk
      have ed : (Kd.fn k1 k2).dep = 1 + max k1.dep k2.dep := rfl
      have es : (Kd.fn k1 k2).size = 1 + k1.size + k2.size := rfl
      have hl : k1.lay = true ∧ k2.lay = true := by
        have z : (k1.lay && k2.lay) = true := hlay
        rwa [Bool.and_eq_true] at z
      refine ⟨_, rfl, a, _, 0, .str "fun", rfl, rfl, SqT.of ha, at0 _ _, rfl, _, rfl, ?_⟩
      show if decide (V.str "fun" = V.str "fun") = true then _ else _
      rw [wt]
      refine iteT ?_
      refine ⟨_, rfl, p, r, 3, rfl, by decide, hD, fun n1 H1 _ _ kp1 d1 => ?_⟩
      have t1 : TK H H1 := tk_keep kp1 hD.notup
      refine ⟨_, _, rfl, rfl, _, rfl, ?_⟩
      refine ite2 (fun _ => ?_) (fun _ => ?_)
      · refine ⟨_, rfl, p, r, 2, rfl, by decide, d1, fun n2 H2 _ _ kp2 d2 => ?_⟩
        have t2 : TK H1 H2 := tk_keep kp2 d1.notup
        have t12 := t1.trans t2
        refine ⟨rfl, _, rfl, ?_⟩
        refine ite2 (fun _ => ?_) (fun _ => ?_)
        · refine ⟨_, rfl, _, rfl, a, _, 1, x, rfl, rfl, SqT.of (t12 _ _ ha), at1 _ _ _, p, r, x, k1, rfl, hx.keep t12, hl.1, by omega, by omega, d2, fun u m H3 kp3 d3 at3 l3 dp3 => ?_⟩
          have t3 : TK H2 H3 := tk_keep kp3 d2.notup
          refine ⟨_, rfl, a, _, 2, y, rfl, rfl, SqT.of (t3 _ _ (t12 _ _ ha)), at2 _ _ _ _, by show 3 ≤ sizeLine; decide, fun t ht => ?_⟩
          have t4 : TK H3 (upd H3 t (.tup [.str "fun", u, y])) := tk_new ht
          exact q _ (.fn m k2) _ (kp1.trans (kp2.trans (kp3.trans (Keep.same (same_new ht _))))) (d3.same (same_new ht _)) ⟨t, u, y, rfl, upd_same, at3.keep t4, hy.keep (t12.trans (t3.trans t4))⟩ (by show (m.lay && k2.lay) = true; rw [l3, hl.2]; rfl) (by
            show 1 + max m.dep k2.dep ≤ _
            omega)
        · refine ⟨_, rfl, a, _, 1, x, rfl, rfl, SqT.of (t12 _ _ ha), at1 _ _ _, _, rfl, _, rfl, a, _, 2, y, rfl, rfl, SqT.of (t12 _ _ ha), at2 _ _ _ _, p, r, y, k2, rfl, hy.keep t12, hl.2, by omega, by omega, d2, fun u m H3 kp3 d3 at3 l3 dp3 => ?_⟩
          have t3 : TK H2 H3 := tk_keep kp3 d2.notup
          refine ⟨by show 3 ≤ sizeLine; decide, fun t ht => ?_⟩
          have t4 : TK H3 (upd H3 t (.tup [.str "fun", x, u])) := tk_new ht
          exact q _ (.fn k1 m) _ (kp1.trans (kp2.trans (kp3.trans (Keep.same (same_new ht _))))) (d3.same (same_new ht _)) ⟨t, x, u, rfl, upd_same, hx.keep (t12.trans (t3.trans t4)), at3.keep t4⟩ (by show (k1.lay && m.lay) = true; rw [l3, hl.1]; rfl) (by
            show 1 + max k1.dep m.dep ≤ _
            omega)
      · refine ⟨_, rfl, a, _, 0, .str "fun", rfl, rfl, SqT.of (t1 _ _ ha), at0 _ _, rfl, _, rfl, ?_⟩
        show if decide (V.str "fun" = V.str "con") = true then _ else _
        rw [wz _ _ sne11]
        refine iteF (iteF ?_)
        exact ⟨_, rfl, p, r, 1, rfl, by decide, d1, fun v m H2 k2 d2 at2 g2 => q v m H2 (kp1.trans k2) d2 at2 g2.lay (by have := g2.dep; omega)⟩
    | cn s l =>
      obtain ⟨a, c, xs, rfl, ha, hc, hats⟩ := hk
      have ed : (Kd.cn s l).dep = 1 + Kd.deps l := rfl
      have hl : PyData.strOk s = true ∧ Kd.lays l = true := by
        have z : (PyData.strOk s && Kd.lays l) = true := hlay
        rwa [Bool.and_eq_true] at z
      refine ⟨_, rfl, a, _, 0, .str "con", rfl, rfl, SqT.of ha, at0 _ _, rfl, _, rfl, ?_⟩
      show if decide (V.str "con" = V.str "fun") = true then _ else _
      rw [wz _ _ sne12]
      refine iteF (iteF ?_)
      refine ⟨_, rfl, a, _, 0, .str "con", rfl, rfl, SqT.of ha, at0 _ _, rfl, _, rfl, ?_⟩
      show if decide (V.str "con" = V.str "con") = true then _ else _
      rw [wt]
      refine iteT ?_
      refine ⟨_, rfl, a, _, 2, .ref c, rfl, rfl, SqT.of ha, at2 _ _ _ _, c, xs, rfl, .inr (SqT.of hc), _, _, rfl, rfl, _, rfl, ?_⟩
      cases l with
      | nil =>
        have e : xs = [] := hats
        subst e
        refine iteF (iteF ?_)
        exact ⟨_, rfl, p, r, 1, rfl, by decide, hD, fun v m H2 k2 d2 at2 g2 => q v m H2 k2 d2 at2 g2.lay (by have := g2.dep; omega)⟩
      | cons k0 l =>
        obtain ⟨x, ys, rfl, hx, hys⟩ := hats
        have z : decide ((0 : Int) < (((x :: ys).length : Nat) : Int)) = true := decide_eq_true (by rw [List.length_cons]; omega)
        show if decide ((0 : Int) < (((x :: ys).length : Nat) : Int)) = true then _ else _
        rw [z]
        refine iteT ?_
        refine ⟨_, rfl, p, r, 3, rfl, by decide, hD, fun n1 H1 _ _ kp1 d1 => ?_⟩
        have t1 : TK H H1 := tk_keep kp1 hD.notup
        refine ⟨_, _, rfl, rfl, _, rfl, ?_⟩
        refine ite2 (fun _ => ?_) (fun _ => ?_)
        · have ll : k0.lay = true ∧ Kd.lays l = true := by
            have z : (k0.lay && Kd.lays l) = true := hl.2
            rwa [Bool.and_eq_true] at z
          have edl : Kd.deps (k0 :: l) = max k0.dep (Kd.deps l) := rfl
          have esl : (Kd.cn s (k0 :: l)).size = 1 + (k0.size + Kd.sizes l) := rfl
          have hlen : (k0 :: l).length ≤ sizeLine := by
            have z := Kd.sizes_len l
            rw [List.length_cons]
            exact Nat.le_of_lt (szl (by have := Kd.size_parts k0; omega))
          refine ⟨_, rfl, a, _, 1, .str s, rfl, rfl, SqT.of (t1 _ _ ha), at1 _ _ _, ?_⟩
          refine ⟨_, rfl, _, rfl, a, _, 2, .ref c, rfl, rfl, SqT.of (t1 _ _ ha), at2 _ _ _ _, c, _, 0, x, rfl, rfl, SqT.of (t1 _ _ hc), at0 _ _, p, r, x, k0, rfl, hx.keep t1, ll.1, by omega, by omega, d1, fun u m H3 kp3 d3 at3 l3 dp3 => ?_⟩
          have t3 : TK H1 H3 := tk_keep kp3 d1.notup
          have t13 := t1.trans t3
          refine ⟨by show 1 ≤ sizeLine; decide, fun p1 hp1 => ?_⟩
          have t4 : TK H3 (upd H3 p1 (.tup [u])) := tk_new hp1
          refine ⟨_, rfl, a, _, 2, .ref c, rfl, rfl, SqT.of (t4 _ _ (t13 _ _ ha)), at2 _ _ _ _, 1, rfl, c, _, rfl, SqT.of (t4 _ _ (t13 _ _ hc)), fun z => ?_, fun _ t ht => ?_⟩
          · have z1 := z.1
            rw [show (1 : Int) = ((1 : Nat) : Int) from rfl, HT.sIx_nat, List.length_cons] at z1
            omega
          · rw [cut1]
            have t5 : TK (upd H3 p1 (.tup [u])) (upd (upd H3 p1 (.tup [u])) t (.tup ys)) := tk_new ht
            have hp1' : upd (upd H3 p1 (.tup [u])) t (.tup ys) p1 = some (.tup [u]) := t5 _ _ upd_same
            have kp5 : Keep p H (upd (upd H3 p1 (.tup [u])) t (.tup ys)) := kp1.trans (kp3.trans ((Keep.same (same_new hp1 _)).trans (Keep.same (same_new ht _))))
            have d5 := (d3.same (same_new hp1 (.tup [u]))).same (same_new ht (.tup ys))
            have hxl := hys.len
            have fin : ∀ (b2 : Addr) (H6 : Hp) (ws : List V), Keep p H H6 → DrawsAt H6 p r → H6 b2 = some (.tup ws) → Kd.Ats H6 (m :: l) ws →
                (3 : Nat) ≤ sizeLine ∧ ∀ t2, H6 t2 = none → Q (.ref t2) (upd H6 t2 (.tup [.str "con", .str s, .ref b2])) := fun b2 H6 ws k6 d6 hb2 hw6 => ⟨by decide, fun t2 ht2 => by
              have t7 : TK H6 (upd H6 t2 (.tup [.str "con", .str s, .ref b2])) := tk_new ht2
              refine q _ (.cn s (m :: l)) _ (k6.trans (Keep.same (same_new ht2 _))) (d6.same (same_new ht2 _)) ⟨t2, b2, ws, rfl, upd_same, t7 _ _ hb2, hw6.keep t7⟩ ?_ ?_
              · show (PyData.strOk s && (m.lay && Kd.lays l)) = true
                rw [hl.1, l3, ll.2]
                rfl
              · show 1 + max m.dep (Kd.deps l) ≤ _
                omega⟩
            have hsz : ([u] : List V).length + ys.length ≤ sizeLine := by
              rw [hxl]
              have := hlen
              show 1 + l.length ≤ _
              rw [List.length_cons] at this
              omega
            refine ⟨p1, t, [u], ys, rfl, rfl, SqT.of hp1', SqT.of upd_same, hsz, fun e => (by cases e), fun _ e => ?_, fun _ _ p6 hp6 => ?_⟩
            · subst e
              have e2 : l = [] := List.length_eq_zero_iff.mp hxl.symm
              subst e2
              exact fin p1 _ [u] kp5 d5 hp1' ⟨u, [], rfl, at3.keep (t4.trans t5), rfl⟩
            · have t6 : TK (upd (upd H3 p1 (.tup [u])) t (.tup ys)) (upd (upd (upd H3 p1 (.tup [u])) t (.tup ys)) p6 (.tup ([u] ++ ys))) := tk_new hp6
              exact fin p6 _ (u :: ys) (kp5.trans (Keep.same (same_new hp6 _))) (d5.same (same_new hp6 _)) upd_same ⟨u, ys, rfl, at3.keep (t4.trans (t5.trans t6)), hys.keep (t13.trans (t4.trans (t5.trans t6)))⟩
        · exact ⟨_, rfl, p, r, 1, rfl, by decide, d1, fun v m H2 k2 d2 at2 g2 => q v m H2 (kp1.trans k2) d2 at2 g2.lay (by have := g2.dep; omega)⟩
end
end Toy

set_option Elab.async false
set_option linter.all false
set_option maxRecDepth 100000
set_option maxHeartbeats 4000000
/-! Part F: the law. -/
namespace Toy
open PySem L2
open PyProof.Rows (envOfC)
theorem boot_bool : bootBuiltins "bool" = some (.type "bool") := by decide +kernel
structure TxtL (mg : Str → Option Value) : Prop where
  zrange : mg "range" = none
  zisinstance : mg "isinstance" = none
  zbool : mg "bool" = none
mutual
theorem sub_dep (f : Str → Kd) (D : Nat) (h : ∀ s, (f s).dep ≤ D) : ∀ k : Kd, (k.sub f).dep ≤ k.dep + D
  | .nm s => by have := h s; show (f s).dep ≤ 0 + D; omega
  | .mt i => Nat.zero_le _
  | .fn a b => by
    have h1 := sub_dep f D h a
    have h2 := sub_dep f D h b
    show 1 + max (a.sub f).dep (b.sub f).dep ≤ 1 + max a.dep b.dep + D
    omega
  | .cn s l => by
    have h1 := subs_dep f D h l
    show 1 + Kd.deps (Kd.subs f l) ≤ 1 + Kd.deps l + D
    omega
theorem subs_dep (f : Str → Kd) (D : Nat) (h : ∀ s, (f s).dep ≤ D) : ∀ l : List Kd, Kd.deps (Kd.subs f l) ≤ Kd.deps l + D
  | [] => Nat.zero_le _
  | k :: l => by
    have h1 := sub_dep f D h k
    have h2 := subs_dep f D h l
    show max (k.sub f).dep (Kd.deps (Kd.subs f l)) ≤ max k.dep (Kd.deps l) + D
    omega
end
mutual
theorem sub_lay (f : Str → Kd) (h : ∀ s, PyData.strOk s = true → (f s).lay = true) : ∀ k : Kd, k.lay = true → (k.sub f).lay = true
  | .nm s, e => h s e
  | .mt i, _ => rfl
  | .fn a b, e => by
    have e : (a.lay && b.lay) = true := e
    rw [Bool.and_eq_true] at e
    show ((a.sub f).lay && (b.sub f).lay) = true
    rw [sub_lay f h a e.1, sub_lay f h b e.2]
    rfl
  | .cn s l, e => by
    have e : (PyData.strOk s && Kd.lays l) = true := e
    rw [Bool.and_eq_true] at e
    show (PyData.strOk s && Kd.lays (Kd.subs f l)) = true
    rw [e.1, subs_lay f h l e.2]
    rfl
theorem subs_lay (f : Str → Kd) (h : ∀ s, PyData.strOk s = true → (f s).lay = true) : ∀ l : List Kd, Kd.lays l = true → Kd.lays (Kd.subs f l) = true
  | [], _ => rfl
  | k :: l, e => by
    have e : (k.lay && Kd.lays l) = true := e
    rw [Bool.and_eq_true] at e
    show ((k.sub f).lay && Kd.lays (Kd.subs f l)) = true
    rw [sub_lay f h k e.1, subs_lay f h l e.2]
    rfl
end
theorem size_pos (k : Kd) : 1 ≤ k.size := by
  have := Kd.size_parts k
  omega
mutual
theorem sub_size (f : Str → Kd) (S : Nat) (hS : 1 ≤ S) (h : ∀ s, (f s).size ≤ S) : ∀ k : Kd, (k.sub f).size ≤ k.size * S
  | .nm s => by have := h s; show (f s).size ≤ 1 * S; omega
  | .mt i => by show 1 ≤ 1 * S; omega
  | .fn a b => by
    have h1 := sub_size f S hS h a
    have h2 := sub_size f S hS h b
    show 1 + (a.sub f).size + (b.sub f).size ≤ (1 + a.size + b.size) * S
    rw [Nat.add_mul, Nat.add_mul]
    omega
  | .cn s l => by
    have h1 := subs_size f S hS h l
    show 1 + Kd.sizes (Kd.subs f l) ≤ (1 + Kd.sizes l) * S
    rw [Nat.add_mul]
    omega
theorem subs_size (f : Str → Kd) (S : Nat) (hS : 1 ≤ S) (h : ∀ s, (f s).size ≤ S) : ∀ l : List Kd, Kd.sizes (Kd.subs f l) ≤ Kd.sizes l * S
  | [] => by show 0 ≤ 0 * S; omega
  | k :: l => by
    have h1 := sub_size f S hS h k
    have h2 := subs_size f S hS h l
    show (k.sub f).size + Kd.sizes (Kd.subs f l) ≤ (k.size + Kd.sizes l) * S
    rw [Nat.add_mul]
    omega
end
/-- the program's answer and the law's are one -/
theorem told_eq {b1 b2 : Bool} {τ : Sb} {p k : Kd} (h1 : b1 = true ↔ Sol [] [(p, k)]) (h2 : Tells b2 [] τ p k) (h3 : (τ.map (·.1)).Nodup) : b1 = b2 := by
  have one : Sol [] [(p, k)] ↔ ∃ f, p.sub f = k := by
    constructor
    · rintro ⟨f, _, h⟩
      exact ⟨f, h (p, k) (List.mem_singleton.mpr rfl)⟩
    · rintro ⟨f, h⟩
      exact ⟨f, fun q hq => (by cases hq), fun q hq => by rw [List.mem_singleton.mp hq]; exact h⟩
  rw [one] at h1
  cases b2 with
  | true =>
    obtain ⟨f, hf⟩ := fits_some h3
    exact h1.mpr ⟨f, ((h2 f).mpr hf).2⟩
  | false =>
    cases b1 with
    | false => rfl
    | true =>
      obtain ⟨f, hf⟩ := h1.mp rfl
      exact (h2 f ⟨fun q hq => (by cases hq), hf⟩).elim
section
variable {P : Program} {w : World} {K : PySem.W.Frag} {mg : Str → Option Value} {base : Heap}
abbrev sLaw : Stmt := topS 14
theorem scLaw : FnScope ["script", "draws", "turn", "kind", "context", "scheme", "table", "made", "other", "told"] ["script"] (defScope sLaw) := ⟨rfl, rfl, rfl, by decide +kernel, rfl, by decide +kernel, by decide +kernel⟩
def spLaw (K : PySem.W.Frag) : Sp := fun vs H Q _ => ∃ (a : Addr) (ns : List Int), vs = [.ref a] ∧ SqL K H a (ns.map V.int) ∧ ns.length ≤ 63 ∧ ∀ H', Q (.bl true) H'
theorem c_law {f : Addr} {fd : FuncData} (T : TxtL mg) (c_law_reader : C8.Cal P w K mg base 2 "_law_reader" (spReader K) []) (c_law_next : C8.Cal P w K mg base 2 "_law_next" spNext []) (c_law_kind : C8.Cal P w K mg base 7 "_law_kind" (spKind 5) []) (cvariables_of : C8.Cal P w K mg base 3 "variables_of" spVars [])
    (c_law_put : C8.Cal P w K mg base 8 "_law_put" (spPut 6) []) (cinstance_of : C8.Cal P w K mg base 3 "instance_of" spInst []) (c_law_change : C8.Cal P w K mg base 14 "_law_change" (spChange 10) []) (c_law_match : C8.Cal P w K mg base 8 "_law_match" (spMatch 6) []) (F : Fun K "law" "law" sLaw f fd) : FnOk P w K mg base CX0 15 f fd ["script"] (spLaw K) := by
  refine F.ok scLaw (fun vs H Q E h => ?_) (fun cdv A outer s H vs Q E hr h => ?_)
  · obtain ⟨a, ns, rfl, _⟩ := h
    rfl
  obtain ⟨a, ns, rfl, hS, h63, q⟩ := h
  have hu := hu_of hr
  have hu64 := hr.units
  refine ⟨_, (pss_cons (ps_set (i := 1) scLaw.nd rfl (Or.inl rfl) (C8.pe_c c_law_reader hr (by decide) rfl (pa_cons (pv 0) pa_nil)))
    (pss_cons (ps_for PassesOwn.never rfl (pi_range1 rfl T.zrange (pa_cons pe_int pa_nil)) (pg_name (i := 2) scLaw.nd rfl (Or.inl rfl))
      (pss_cons (ps_set (i := 3) scLaw.nd rfl (Or.inl rfl) (C8.pe_c c_law_kind hr (by decide) rfl (pa_cons (pv 1) (pa_cons (C8.pe_c c_law_next hr (by decide) rfl (pa_cons (pv 1) (pa_cons pe_int pa_nil))) (pa_cons pe_int pa_nil)))))
    (pss_cons (ps_set (i := 4) scLaw.nd rfl (Or.inl rfl) (pe_ix ix_list (pe_lst (pa_cons (pe_tup pa_nil) (pa_cons (pe_tup (pa_cons (pe_tup (pa_cons pe_str (pa_cons pe_str pa_nil))) pa_nil)) pa_nil))) (C8.pe_c c_law_next hr (by decide) rfl (pa_cons (pv 1) (pa_cons pe_int pa_nil))) (fun _ _ => rfl)))
    (pss_cons (ps_set (i := 5) scLaw.nd rfl (Or.inl rfl) (pe_tup (pa_cons (C8.pe_c cvariables_of hr (by decide) rfl (pa_cons (pv 3) pa_nil)) (pa_cons (pv 4) (pa_cons (pv 3) pa_nil)))))
    (pss_cons (ps_set (i := 6) scLaw.nd rfl (Or.inl rfl) (pe_dispT hu (pps_cons (pe_tup (pa_cons pe_str (pa_cons pe_str pa_nil))) (C8.pe_c c_law_kind hr (by decide) rfl (pa_cons (pv 1) (pa_cons pe_int (pa_cons pe_int pa_nil)))) (pps_cons (pe_tup (pa_cons pe_str (pa_cons pe_str pa_nil))) (C8.pe_c c_law_kind hr (by decide) rfl (pa_cons (pv 1) (pa_cons pe_int (pa_cons pe_int pa_nil)))) pps_nil)) rfl rfl (by decide) (by decide)))
    (pss_cons (ps_set (i := 7) scLaw.nd rfl (Or.inl rfl) (C8.pe_c c_law_put hr (by decide) rfl (pa_cons (pv 3) (pa_cons (pv 6) pa_nil))))
    (pss_cons (ps_if (pt_cmpR op_isnot_bl (C8.pe_c cinstance_of hr (by decide) rfl (pa_cons (pv 5) (pa_cons (pv 7) pa_nil))) pe_bl (nomark _))
      (pss_one (ps_ret pe_bl))
      pss_nil)
    (pss_one (ps_for PassesOwn.never rfl (pi_list (pe_lst (pa_cons (C8.pe_c c_law_change hr (by decide) rfl (pa_cons (pv 1) (pa_cons (pv 7) pa_nil))) (pa_cons (C8.pe_c c_law_kind hr (by decide) rfl (pa_cons (pv 1) (pa_cons pe_int (pa_cons pe_int pa_nil)))) (pa_cons (pv 3) pa_nil))))) (pg_name (i := 8) scLaw.nd rfl (Or.inl rfl))
      (pss_cons (ps_set (i := 9) scLaw.nd rfl (Or.inl rfl) (C8.pe_c cinstance_of hr (by decide) rfl (pa_cons (pv 5) (pa_cons (pv 8) pa_nil))))
    (pss_one (ps_if (PW.pt (pw_or (pt_not (pt_val (pe_callB call_isi rfl T.zisinstance boot_isinstance (pa_cons (pv 9) (pa_cons (pe_bltn (v := .ty "bool") rfl T.zbool boot_bool rfl) pa_nil))))) (pw_or1 (pt_cmpR op_ne (pv 9) (C8.pe_c c_law_match hr (by decide) rfl (pa_cons (pv 3) (pa_cons (pv 8) (pa_cons pe_str (pa_cons pe_dnewT pa_nil))))) (nomark _)))))
      (pss_one (ps_ret pe_bl))
      pss_nil))))))))))))
    (pss_one (ps_ret pe_bl)))), ?_⟩
  refine ⟨_, rfl, a, ns, rfl, hS, h63, fun p r H1 hp s1 d1 => ?_⟩
  refine ⟨6, rfl, by decide, by decide, for_range
    (fun (i : Nat) σ H2 => ∃ (v2 v3 v4 v5 v6 v7 v8 v9 : Option V), σ = [some (.ref a), some (.ref p), v2, v3, v4, v5, v6, v7, v8, v9] ∧ DrawsAt H2 p r)
    ⟨_, _, _, _, _, _, _, _, rfl, d1⟩ ?_ ?_⟩
  · rintro i0 σ H2 hi ⟨v2, v3, v4, v5, v6, v7, v8, v9, rfl, d2⟩
    refine ⟨_, rfl, _, rfl, p, r, 5, rfl, by decide, d2, fun n1 H3 n10 n15 kp3 d3 => ?_⟩
    refine ⟨p, r, n1.toNat, by show [V.ref p, V.int n1, V.int 0] = _; rw [Int.toNat_of_nonneg n10], by omega, d3, fun vk k H4 kp4 d4 at4 g4 => ?_⟩
    have hdk : k.dep ≤ 5 := by have := g4.dep; omega
    have hsk : k.size ≤ 63 := by
      have h1 := g4.size
      have h2 : 2 ^ (n1.toNat + 1 + 1) ≤ 2 ^ 6 := Nat.pow_le_pow_right (by decide) (by omega)
      have h3 : (2 : Nat) ^ 6 = 64 := by decide
      omega
    refine ⟨by show 0 ≤ sizeLine; decide, fun e1 he1 => ?_⟩
    have s5 := same_new he1 (.tup [])
    have h5 : upd H4 e1 (.tup []) e1 = some (.tup []) := upd_same
    generalize upd H4 e1 (.tup []) = H5 at s5 h5 ⊢
    refine ⟨by show 2 ≤ sizeLine; decide, fun e2 he2 => ?_⟩
    have s6 := same_new he2 (.tup [.str "Size", .str "a"])
    generalize upd H5 e2 (.tup [.str "Size", .str "a"]) = H6 at s6 ⊢
    refine ⟨by show 1 ≤ sizeLine; decide, fun e3 he3 => ?_⟩
    have s7 := same_new he3 (.tup [.ref e2])
    generalize upd H6 e3 (.tup [.ref e2]) = H7 at s7 ⊢
    refine ⟨by show 2 ≤ sizeLine; decide, fun l1 hl1 => ?_⟩
    have s8 := same_new hl1 (.lst [.ref e1, .ref e3])
    have h8 : upd H7 l1 (.lst [.ref e1, .ref e3]) l1 = some (.lst [.ref e1, .ref e3]) := upd_same
    generalize upd H7 l1 (.lst [.ref e1, .ref e3]) = H8 at s8 h8 ⊢
    have s48 : Same H4 H8 := fun b o e => s8 _ _ (s7 _ _ (s6 _ _ (s5 _ _ e)))
    have d8 := d4.same s48
    refine ⟨_, rfl, p, r, 2, rfl, by decide, d8, fun n2 H9 n20 n22 kp9 d9 => ?_⟩
    have nl1 : l1 ≠ p := fun e => by
      obtain ⟨_, _, _, z, _⟩ := d8
      rw [← e, h8] at z
      cases z
    have t49 : TK H4 H9 := (tk_same s48).trans (tk_keep kp9 d8.notup)
    obtain ⟨cx, hcx⟩ : ∃ cx, atI [V.ref e1, V.ref e3] n2 = some cx := by
      have e : n2 = 0 ∨ n2 = 1 := by omega
      rcases e with e | e
      · exact ⟨_, by rw [e]; exact at0 _ _⟩
      · exact ⟨_, by rw [e]; exact at1 _ _ _⟩
    refine ⟨l1, _, n2, cx, rfl, rfl, SqL.of (kp9 _ _ nl1 h8), hcx, ?_⟩
    have at9 := at4.keep t49
    refine ⟨_, rfl, vk, k, rfl, at9, by omega, fun va names H10 s10 hva hnames => ?_⟩
    refine ⟨_, rfl, _, rfl, by show 3 ≤ sizeLine; decide, fun sc hsc => ?_⟩
    have s11 := same_new hsc (.tup [.ref va, cx, vk])
    have h11 : upd H10 sc (.tup [.ref va, cx, vk]) sc = some (.tup [.ref va, cx, vk]) := upd_same
    generalize upd H10 sc (.tup [.ref va, cx, vk]) = H11 at s11 h11 ⊢
    have d11 := (d9.same s10).same s11
    have at11 := (at9.keep (tk_same s10)).keep (tk_same s11)
    have hva11 := s11 _ _ hva
    intro tb htb
    have s12 := same_new htb (.dT [])
    have h12 : upd H11 tb (.dT []) tb = some (.dT []) := upd_same
    generalize upd H11 tb (.dT []) = H12 at s12 h12 ⊢
    have d12 := d11.same s12
    have ntb : tb ≠ p := fun e => by
      obtain ⟨_, _, _, z, _⟩ := d12
      rw [← e, h12] at z
      cases z
    refine ⟨by show 2 ≤ sizeLine; decide, fun b1 hb1 => ?_⟩
    have s13 := same_new hb1 (.tup [.str "name", .str "a"])
    have h13 : upd H12 b1 (.tup [.str "name", .str "a"]) b1 = some (.tup [.str "name", .str "a"]) := upd_same
    generalize upd H12 b1 (.tup [.str "name", .str "a"]) = H13 at s13 h13 ⊢
    have d13 := d12.same s13
    refine ⟨_, rfl, p, r, 2, rfl, by decide, d13, fun wa ka H14 kp14 d14 ata ga => ?_⟩
    have t14 := tk_keep kp14 d13.notup
    refine ⟨by show 2 ≤ sizeLine; decide, fun b2 hb2 => ?_⟩
    have s15 := same_new hb2 (.tup [.str "name", .str "b"])
    have h15 : upd H14 b2 (.tup [.str "name", .str "b"]) b2 = some (.tup [.str "name", .str "b"]) := upd_same
    generalize upd H14 b2 (.tup [.str "name", .str "b"]) = H15 at s15 h15 ⊢
    have d15 := d14.same s15
    refine ⟨_, rfl, p, r, 2, rfl, by decide, d15, fun wb kb H16 kp16 d16 atb gb => ?_⟩
    have t16 := tk_keep kp16 d15.notup
    have htb16 : H16 tb = some (.dT []) := kp16 _ _ ntb (s15 _ _ (kp14 _ _ ntb (s13 _ _ h12)))
    refine ⟨htb16, [(nkey "a", wa), (nkey "b", wb)], ⟨b1, nkey "a", _, rfl, t16 _ _ (s15 _ _ (t14 _ _ h13)), rfl, b2, nkey "b", [], rfl, t16 _ _ h15, rfl, rfl⟩, by show 2 ≤ 15; decide, fun H17 htb17 off17 => ?_⟩
    have e17 : putAllT [] [(nkey "a", wa), (nkey "b", wb)] = [(nkey "a", wa), (nkey "b", wb)] := by
      have ne : ¬ nkey "a" = nkey "b" := fun e => absurd (nkey_inj _ _ e) (by decide +kernel)
      show putK (putK [] (nkey "a") wa) (nkey "b") wb = _
      rw [putK_new wa valV_nil]
      show putK [(nkey "a", wa)] (nkey "b") wb = _
      rw [putK_new wb (by rw [valV_neg ne, valV_nil])]
      rfl
    rw [e17] at htb17
    have t17 : TK H16 H17 := fun b xs e => by
      by_cases eb : b = tb
      · rw [eb, htb16] at e
        cases e
      · rw [off17 b eb]
        exact e
    have d17 : DrawsAt H17 p r := by
      obtain ⟨row, i, z, g1, g2⟩ := d16
      have nr : r ≠ tb := fun e => by
        rw [e, htb16] at g2
        cases g2
      exact ⟨row, i, z, by rw [off17 p ntb.symm]; exact g1, by rw [off17 r nr]; exact g2⟩
    have t1117 : TK H11 H17 := (tk_same s12).trans ((tk_same s13).trans (t14.trans ((tk_same s15).trans (t16.trans t17))))
    have at17 := at11.keep t1117
    have ata17 := ata.keep ((tk_same s15).trans (t16.trans t17))
    have atb17 := atb.keep t17
    refine ⟨_, rfl, _, rfl, vk, wa, wb, tb, k, ka, kb, rfl, at17, by omega, g4.nom, by omega, htb17, ata17, atb17, fun wm H18 s18 atm => ?_⟩
    have t18 := tk_same s18
    have da : ka.dep ≤ 3 := ga.dep
    have db : kb.dep ≤ 3 := gb.dep
    have za : ka.size ≤ 15 := ga.size
    have zb : kb.size ≤ 15 := gb.size
    have tabd : ∀ s, (tab ka kb s).dep ≤ 3 := fun s => by
      unfold tab
      split
      · exact da
      · split
        · exact db
        · exact Nat.zero_le _
    have tabz : ∀ s, (tab ka kb s).size ≤ 15 := fun s => by
      unfold tab
      split
      · exact za
      · split
        · exact zb
        · show 1 ≤ 15; decide
    have tabl : ∀ s, PyData.strOk s = true → (tab ka kb s).lay = true := fun s hs => by
      unfold tab
      split
      · exact ga.lay
      · split
        · exact gb.lay
        · exact hs
    have md := sub_dep (tab ka kb) 3 tabd k
    have ml := sub_lay (tab ka kb) tabl k g4.lay
    have mz := sub_size (tab ka kb) 15 (by decide) tabz k
    have gk : Gd k := ⟨g4.lay, by omega⟩
    have gm : Gd (k.sub (tab ka kb)) := ⟨ml, by omega⟩
    have hsc18 : H18 sc = some (.tup [.ref va, cx, vk]) := s18 _ _ (t1117 _ _ h11)
    have hva18 : H18 va = some (.tup (names.map V.str)) := s18 _ _ (t1117 _ _ hva11)
    have at18 := at17.keep t18
    refine ⟨_, rfl, _, rfl, sc, va, wm, cx, vk, names, k, k.sub (tab ka kb), rfl, hsc18, hva18, at18, atm, hnames, gk, gm, by omega, fun b1 H19 s19 hb1 => ?_⟩
    have yes : b1 = true := hb1.mpr ⟨tab ka kb, (fun q hq => by cases hq), fun q hq => by rw [List.mem_singleton.mp hq]⟩
    subst yes
    refine ⟨true, true, rfl, rfl, _, rfl, ?_⟩
    refine iteF ?_
    have d19 := (d17.same s18).same s19
    have t19 := tk_same s19
    refine ⟨_, rfl, _, rfl, p, r, wm, _, rfl, atm.keep t19, ml, by omega, by omega, d19, fun u1 m1 H20 kp20 d20 at20 lay20 dep20 => ?_⟩
    have t20 := tk_keep kp20 d19.notup
    refine ⟨_, rfl, p, r, 3, rfl, by decide, d20, fun u2 m2 H21 kp21 d21 at21 g21 => ?_⟩
    have t21 := tk_keep kp21 d20.notup
    refine ⟨_, rfl, by show 3 ≤ sizeLine; decide, fun ll hll => ?_⟩
    have s22 := same_new hll (.lst [u1, u2, vk])
    have h22 : upd H21 ll (.lst [u1, u2, vk]) ll = some (.lst [u1, u2, vk]) := upd_same
    generalize upd H21 ll (.lst [u1, u2, vk]) = G at s22 h22 ⊢
    have t22 := tk_same s22
    have t1822 : TK H18 G := t19.trans (t20.trans (t21.trans t22))
    have dG := d21.same s22
    have atG := at18.keep t1822
    have items : ∀ (i : Nat) (x : V), [u1, u2, vk][i]? = some x → ∃ m : Kd, m.At G x ∧ Gd m := fun i x hx => by
      match i, hx with
      | 0, hx => cases hx; exact ⟨m1, at20.keep (t21.trans t22), lay20, by omega⟩
      | 1, hx => cases hx; exact ⟨m2, at21.keep t22, g21.lay, by have := g21.dep; omega⟩
      | 2, hx => cases hx; exact ⟨k, atG, gk⟩
      | i + 3, hx => simp at hx
    refine ⟨ll, rfl, ⟨_, SqL.of h22⟩, for_list (xs := [u1, u2, vk]) (K := K)
      (fun (i : Nat) σ H23 => ∃ (v8 v9 : Option V), σ = [some (.ref a), some (.ref p), some (.int (0 + (i0 : Int))), some vk, some cx, some (.ref sc), some (.ref tb), some wm, v8, v9] ∧ Same G H23)
      ⟨_, _, rfl, fun _ _ e => e⟩ (fun i σ H23 _ ⟨v8, v9, _, s23⟩ => SqL.of (s23 _ _ h22)) ?_ ?_⟩
    · rintro i x σ H23 hx ⟨v8, v9, rfl, s23⟩
      obtain ⟨m, atm0, gm0⟩ := items i x hx
      have t23 := tk_same s23
      have atm23 := atm0.keep t23
      refine ⟨_, rfl, _, rfl, sc, va, x, cx, vk, names, k, m, rfl, s23 _ _ (t1822 _ _ hsc18), s23 _ _ (t1822 _ _ hva18), atG.keep t23, atm23, hnames, gk, gm0, by omega, fun b2 H24 s24 hb2 => ?_⟩
      have t24 := tk_same s24
      refine ⟨_, rfl, .bl b2, .ty "bool", _, _, true, rfl, .ty "bool", .base (.bl b2), kit_ty (by decide +kernel), _, rfl, ?_⟩
      refine iteF ?_
      refine ⟨_, rfl, _, rfl, _, rfl, fun fd0 hfd0 => ?_⟩
      have t25 : TK H24 (upd H24 fd0 (.dT [])) := tk_new hfd0
      refine ⟨vk, x, fd0, k, m, [], [], rfl, (atG.keep (t23.trans t24)).keep t25, (atm23.keep t24).keep t25, by omega, g4.nom, gm0, ⟨upd_same, rfl, (fun q hq => by cases hq), List.nodup_nil⟩, by show 0 + _ ≤ _; omega, fun b3 H26 kvs' τ kp26 F26 lt26 tl26 => ?_⟩
      have e : b2 = b3 := told_eq hb2 tl26 F26.nodup
      subst e
      refine ⟨rfl, _, rfl, ?_⟩
      have z : (!decide (V.bl b2 = V.bl b2)) = false := by rw [decide_eq_true rfl]; rfl
      show if (!decide (V.bl b2 = V.bl b2)) = true then _ else _
      rw [z]
      refine iteF ?_
      refine ⟨_, _, rfl, fun b o e => ?_⟩
      have e24 := s24 _ _ (s23 _ _ e)
      have nb : b ≠ fd0 := fun e => by
        rw [e, hfd0] at e24
        cases e24
      exact kp26 _ _ nb (by rw [upd_ne nb]; exact e24)
    · rintro σ H23 ⟨v8, v9, rfl, s23⟩
      exact ⟨_, _, _, _, _, _, _, _, rfl, dG.same s23⟩
  · rintro σ H2 ⟨v2, v3, v4, v5, v6, v7, v8, v9, rfl, d2⟩
    exact q _
end
end Toy

set_option Elab.async false
set_option linter.all false
set_option maxRecDepth 100000
set_option maxHeartbeats 4000000
/-! The last part: what the program's top has left, and the end. -/
namespace Toy
open PySem L2
open PyProof.Rows (envOfC)
theorem all_mk {l : PySem.W.OpenLaw} {w : World} {K : PySem.W.Frag} {h : Heap} {mg : Str → Option Value} {fa : Addr} {f0 f1 f2 f3 f4 f5 f6 f7 f8 f9 f10 f11 f12 : Addr} (X : K.In h) (G : h.Ns mainGlobals mg) (hfa : mg "law" = some (.ref fa))
    {od0 an0 od1 an1 od2 an2 od3 an3 od4 an4 od5 an5 od6 an6 od7 an7 od8 an8 od9 an9 od10 an10 od11 an11 od12 an12 : Option Addr} {sl0 sl1 sl2 sl3 sl4 sl5 sl6 sl7 sl8 sl9 sl10 sl11 sl12 : Array (Option Value)} {oc0 kV0 dc0 pm0 cd0 ct0 oc1 kV1 dc1 pm1 cd1 ct1 oc2 kV2 dc2 pm2 cd2 ct2 oc3 kV3 dc3 pm3 cd3 ct3 oc4 kV4 dc4 pm4 cd4 ct4 oc5 kV5 dc5 pm5 cd5 ct5 oc6 kV6 dc6 pm6 cd6 ct6 oc7 kV7 dc7 pm7 cd7 ct7 oc8 kV8 dc8 pm8 cd8 ct8 oc9 kV9 dc9 pm9 cd9 ct9 oc10 kV10 dc10 pm10 cd10 ct10 oc11 kV11 dc11 pm11 cd11 ct11 oc12 kV12 dc12 pm12 cd12 ct12 : Value}
    (a0 : PySem.W.nsIn K mainGlobals "variables_of" = some (some (.ref f0)))
    (l0 : K.lookup f0 = some ⟨oc0, od0, .func (PySem.W.fnOf "variables_of" "variables_of" (defArgs sVars) (defBody sVars) (defScope sVars) .none kV0 dc0 pm0 an0 cd0 ct0), sl0⟩)
    (c0 : PySem.W.codeIn K cd0 "variables_of" = true)
    (k0 : PySem.W.keepIn K (.ref f0) = true)
    (a1 : PySem.W.nsIn K mainGlobals "_leaves" = some (some (.ref f1)))
    (l1 : K.lookup f1 = some ⟨oc1, od1, .func (PySem.W.fnOf "_leaves" "_leaves" (defArgs sLeaves) (defBody sLeaves) (defScope sLeaves) .none kV1 dc1 pm1 an1 cd1 ct1), sl1⟩)
    (c1 : PySem.W.codeIn K cd1 "_leaves" = true)
    (k1 : PySem.W.keepIn K (.ref f1) = true)
    (a2 : PySem.W.nsIn K mainGlobals "kind_parts" = some (some (.ref f2)))
    (l2 : K.lookup f2 = some ⟨oc2, od2, .func (PySem.W.fnOf "kind_parts" "kind_parts" (defArgs sParts) (defBody sParts) (defScope sParts) .none kV2 dc2 pm2 an2 cd2 ct2), sl2⟩)
    (c2 : PySem.W.codeIn K cd2 "kind_parts" = true)
    (k2 : PySem.W.keepIn K (.ref f2) = true)
    (a3 : PySem.W.nsIn K mainGlobals "instance_of" = some (some (.ref f3)))
    (l3 : K.lookup f3 = some ⟨oc3, od3, .func (PySem.W.fnOf "instance_of" "instance_of" (defArgs sInst) (defBody sInst) (defScope sInst) .none kV3 dc3 pm3 an3 cd3 ct3), sl3⟩)
    (c3 : PySem.W.codeIn K cd3 "instance_of" = true)
    (k3 : PySem.W.keepIn K (.ref f3) = true)
    (a4 : PySem.W.nsIn K mainGlobals "alike" = some (some (.ref f4)))
    (l4 : K.lookup f4 = some ⟨oc4, od4, .func (PySem.W.fnOf "alike" "alike" (defArgs sAlike) (defBody sAlike) (defScope sAlike) .none kV4 dc4 pm4 an4 cd4 ct4), sl4⟩)
    (c4 : PySem.W.codeIn K cd4 "alike" = true)
    (k4 : PySem.W.keepIn K (.ref f4) = true)
    (a5 : PySem.W.nsIn K mainGlobals "_law_draws" = some (some (.ref f5)))
    (l5 : K.lookup f5 = some ⟨oc5, od5, .func (PySem.W.fnOf "_law_draws" "_law_draws" (defArgs sDraws) (defBody sDraws) (defScope sDraws) .none kV5 dc5 pm5 an5 cd5 ct5), sl5⟩)
    (c5 : PySem.W.codeIn K cd5 "_law_draws" = true)
    (k5 : PySem.W.keepIn K (.ref f5) = true)
    (a6 : PySem.W.nsIn K mainGlobals "_law_reader" = some (some (.ref f6)))
    (l6 : K.lookup f6 = some ⟨oc6, od6, .func (PySem.W.fnOf "_law_reader" "_law_reader" (defArgs sReader) (defBody sReader) (defScope sReader) .none kV6 dc6 pm6 an6 cd6 ct6), sl6⟩)
    (c6 : PySem.W.codeIn K cd6 "_law_reader" = true)
    (k6 : PySem.W.keepIn K (.ref f6) = true)
    (a7 : PySem.W.nsIn K mainGlobals "_law_next" = some (some (.ref f7)))
    (l7 : K.lookup f7 = some ⟨oc7, od7, .func (PySem.W.fnOf "_law_next" "_law_next" (defArgs sNext) (defBody sNext) (defScope sNext) .none kV7 dc7 pm7 an7 cd7 ct7), sl7⟩)
    (c7 : PySem.W.codeIn K cd7 "_law_next" = true)
    (k7 : PySem.W.keepIn K (.ref f7) = true)
    (a8 : PySem.W.nsIn K mainGlobals "_law_kind" = some (some (.ref f8)))
    (l8 : K.lookup f8 = some ⟨oc8, od8, .func (PySem.W.fnOf "_law_kind" "_law_kind" (defArgs sKind) (defBody sKind) (defScope sKind) .none kV8 dc8 pm8 an8 cd8 ct8), sl8⟩)
    (c8 : PySem.W.codeIn K cd8 "_law_kind" = true)
    (k8 : PySem.W.keepIn K (.ref f8) = true)
    (a9 : PySem.W.nsIn K mainGlobals "_law_put" = some (some (.ref f9)))
    (l9 : K.lookup f9 = some ⟨oc9, od9, .func (PySem.W.fnOf "_law_put" "_law_put" (defArgs sPut) (defBody sPut) (defScope sPut) .none kV9 dc9 pm9 an9 cd9 ct9), sl9⟩)
    (c9 : PySem.W.codeIn K cd9 "_law_put" = true)
    (k9 : PySem.W.keepIn K (.ref f9) = true)
    (a10 : PySem.W.nsIn K mainGlobals "_law_match" = some (some (.ref f10)))
    (l10 : K.lookup f10 = some ⟨oc10, od10, .func (PySem.W.fnOf "_law_match" "_law_match" (defArgs sMatch) (defBody sMatch) (defScope sMatch) .none kV10 dc10 pm10 an10 cd10 ct10), sl10⟩)
    (c10 : PySem.W.codeIn K cd10 "_law_match" = true)
    (k10 : PySem.W.keepIn K (.ref f10) = true)
    (a11 : PySem.W.nsIn K mainGlobals "_law_change" = some (some (.ref f11)))
    (l11 : K.lookup f11 = some ⟨oc11, od11, .func (PySem.W.fnOf "_law_change" "_law_change" (defArgs sChange) (defBody sChange) (defScope sChange) .none kV11 dc11 pm11 an11 cd11 ct11), sl11⟩)
    (c11 : PySem.W.codeIn K cd11 "_law_change" = true)
    (k11 : PySem.W.keepIn K (.ref f11) = true)
    (a12 : PySem.W.nsIn K mainGlobals "law" = some (some (.ref f12)))
    (l12 : K.lookup f12 = some ⟨oc12, od12, .func (PySem.W.fnOf "law" "law" (defArgs sLaw) (defBody sLaw) (defScope sLaw) .none kV12 dc12 pm12 an12 cd12 ct12), sl12⟩)
    (c12 : PySem.W.codeIn K cd12 "law" = true)
    (k12 : PySem.W.keepIn K (.ref f12) = true)
    (zlen : PySem.W.nsIn K mainGlobals "len" = some none)
    (zmin : PySem.W.nsIn K mainGlobals "min" = some none)
    (zint : PySem.W.nsIn K mainGlobals "int" = some none)
    (zrange : PySem.W.nsIn K mainGlobals "range" = some none)
    (zabs : PySem.W.nsIn K mainGlobals "abs" = some none)
    (ztuple : PySem.W.nsIn K mainGlobals "tuple" = some none)
    (zlist : PySem.W.nsIn K mainGlobals "list" = some none)
    (zzip : PySem.W.nsIn K mainGlobals "zip" = some none)
    (zisinstance : PySem.W.nsIn K mainGlobals "isinstance" = some none)
    (zbool : PySem.W.nsIn K mainGlobals "bool" = some none) :
    ∃ fd : FuncData, (∀ (s : Shared) (v : Value), BindsTo s fd ⟨[v], []⟩ [("script", v)]) ∧ ∀ base : Heap, K.In base → base.Ns mainGlobals mg → FnOk l.prog w K mg base CX0 15 fa fd ["script"] (spLaw K) := by
  have e := hfa.symm.trans (PySem.W.mg_of X G a12)
  cases e
  have nlen := PySem.W.mg_none_of X G zlen
  have nmin := PySem.W.mg_none_of X G zmin
  have nint := PySem.W.mg_none_of X G zint
  have nrange := PySem.W.mg_none_of X G zrange
  have nabs := PySem.W.mg_none_of X G zabs
  have ntuple := PySem.W.mg_none_of X G ztuple
  have nlist := PySem.W.mg_none_of X G zlist
  have nzip := PySem.W.mg_none_of X G zzip
  have nisinstance := PySem.W.mg_none_of X G zisinstance
  have nbool := PySem.W.mg_none_of X G zbool
  have FVars := fun_mk (st := sVars) l0 c0 k0
  have bVars := FVars.binds (ps := ["kind"]) fun _ _ _ _ _ _ us hl => match us, hl with | [_], _ => rfl
  have mVars := PySem.W.mg_of X G a0
  have FLeaves := fun_mk (st := sLeaves) l1 c1 k1
  have bLeaves := FLeaves.binds (ps := ["kind", "word"]) fun _ _ _ _ _ _ us hl => match us, hl with | [_, _], _ => rfl
  have mLeaves := PySem.W.mg_of X G a1
  have FParts := fun_mk (st := sParts) l2 c2 k2
  have bParts := FParts.binds (ps := ["kind"]) fun _ _ _ _ _ _ us hl => match us, hl with | [_], _ => rfl
  have mParts := PySem.W.mg_of X G a2
  have FInst := fun_mk (st := sInst) l3 c3 k3
  have bInst := FInst.binds (ps := ["scheme", "kind"]) fun _ _ _ _ _ _ us hl => match us, hl with | [_, _], _ => rfl
  have mInst := PySem.W.mg_of X G a3
  have FAlike := fun_mk (st := sAlike) l4 c4 k4
  have bAlike := FAlike.binds (ps := ["one", "other"]) fun _ _ _ _ _ _ us hl => match us, hl with | [_, _], _ => rfl
  have mAlike := PySem.W.mg_of X G a4
  have FDraws := fun_mk (st := sDraws) l5 c5 k5
  have bDraws := FDraws.binds (ps := ["script"]) fun _ _ _ _ _ _ us hl => match us, hl with | [_], _ => rfl
  have mDraws := PySem.W.mg_of X G a5
  have FReader := fun_mk (st := sReader) l6 c6 k6
  have bReader := FReader.binds (ps := ["script"]) fun _ _ _ _ _ _ us hl => match us, hl with | [_], _ => rfl
  have mReader := PySem.W.mg_of X G a6
  have FNext := fun_mk (st := sNext) l7 c7 k7
  have bNext := FNext.binds (ps := ["draws", "many"]) fun _ _ _ _ _ _ us hl => match us, hl with | [_, _], _ => rfl
  have mNext := PySem.W.mg_of X G a7
  have FKind := fun_mk (st := sKind) l8 c8 k8
  have bKind := FKind.binds (ps := ["draws", "depth", "metas"]) fun _ _ _ _ _ _ us hl => match us, hl with | [_, _, _], _ => rfl
  have mKind := PySem.W.mg_of X G a8
  have FPut := fun_mk (st := sPut) l9 c9 k9
  have bPut := FPut.binds (ps := ["kind", "table"]) fun _ _ _ _ _ _ us hl => match us, hl with | [_, _], _ => rfl
  have mPut := PySem.W.mg_of X G a9
  have FMatch := fun_mk (st := sMatch) l10 c10 k10
  have bMatch := FMatch.binds (ps := ["pattern", "kind", "word", "found"]) fun _ _ _ _ _ _ us hl => match us, hl with | [_, _, _, _], _ => rfl
  have mMatch := PySem.W.mg_of X G a10
  have FChange := fun_mk (st := sChange) l11 c11 k11
  have bChange := FChange.binds (ps := ["draws", "kind"]) fun _ _ _ _ _ _ us hl => match us, hl with | [_, _], _ => rfl
  have mChange := PySem.W.mg_of X G a11
  have FLaw := fun_mk (st := sLaw) l12 c12 k12
  have bLaw := FLaw.binds (ps := ["script"]) fun _ _ _ _ _ _ us hl => match us, hl with | [_], _ => rfl
  have mLaw := PySem.W.mg_of X G a12
  refine ⟨PySem.W.fnOf "law" "law" (defArgs sLaw) (defBody sLaw) (defScope sLaw) .none kV12 dc12 pm12 an12 cd12 ct12, fun s v => .of_eq rfl, fun base _ _ => ?_⟩
  have TD : TxtD mg := ⟨nlen, nmin, nint, nrange, nabs⟩
  have T : TxtT mg := ⟨ntuple, nlist, nzip, nlen⟩
  have TL : TxtL mg := ⟨nrange, nisinstance, nbool⟩
  have Cparts := c_parts (P := l.prog) (w := w) (base := base) FParts bParts mParts
  have Calike := c_alike (P := l.prog) (w := w) (base := base) T Cparts FAlike bAlike mAlike
  have Cleaves := c_leaves (P := l.prog) (w := w) (base := base) T Cparts FLeaves bLeaves mLeaves
  have Cvars := c_vars (P := l.prog) (w := w) (base := base) Cleaves FVars bVars mVars
  have Cinst := c_inst (P := l.prog) (w := w) (base := base) T Cparts Calike FInst bInst mInst
  have Cdraws := c_draws (P := l.prog) (w := w) (base := base) TD FDraws bDraws mDraws
  have Creader := c_reader (P := l.prog) (w := w) (base := base) TD Cdraws FReader bReader mReader
  have Cnext := c_next (P := l.prog) (w := w) (base := base) TD FNext bNext mNext
  have Ckind := c_kind (P := l.prog) (w := w) (base := base) TD Cnext FKind bKind mKind
  have Cput := c_put (P := l.prog) (w := w) (base := base) T FPut bPut mPut 6
  have Cmatch := c_match (P := l.prog) (w := w) (base := base) T nrange FMatch bMatch mMatch 6
  have Cchange := c_change (P := l.prog) (w := w) (base := base) T Cnext (Ckind 2) FChange bChange mChange 10
  exact c_law TL Creader Cnext (Ckind 5) Cvars Cput Cinst Cchange Cmatch FLaw
theorem walk {l : PySem.W.OpenLaw} {q : Program} {loose : List Str} {XP : (Str → Option Value) → Heap → Prop} {YP : World → Heap → Prop} {d : DefRec} {K : Params → PySem.W.Frag} (hn : l.most = some 63) (hdf : d.params.defaults = [])
    (hY : ∀ (w : World) (h : Heap), YP w h → (K w.params).In h)
    (F : ∀ (w : World) (mg : Str → Option Value) (fa : Addr) (h : Heap), (K w.params).In h → h.Ns mainGlobals mg → mg d.name = some (.ref fa) →
      ∃ fd : FuncData, (∀ (s : Shared) (u : Value), BindsTo s fd ⟨[u], []⟩ [("script", u)]) ∧ ∀ base : Heap, (K w.params).In base → base.Ns mainGlobals mg → FnOk l.prog w (K w.params) mg base CX0 15 fa fd ["script"] (spLaw (K w.params))) :
    PySem.W.WalkO q loose XP YP l.row.toRowW d [] (fun f vs => PySem.call f vs) :=
  L2.walk_of (n := 63) (k := 15) (x := "script") (CX := fun _ => CX0) (sp := fun w => spLaw (K w.params)) hn (by decide) hdf ⟨rfl, by decide, by decide⟩ hY F (fun _ _ a ns hl _ hS => ⟨a, ns, rfl, hS, hl, fun _ => rfl⟩) fun _ _ _ _ _ z => z
end Toy
open PySem PySem.W PyProof.Rows
set_option maxRecDepth 100000 in
set_option maxHeartbeats 0 in
theorem PySem.Challenge.cw_needonce_k24_instances_of_schemes_holds : PySem.Challenge.rw_needonce_k24_instances_of_schemes.Holds := by
  w_on; o_law; k_head; (case hw => w_witness2)
  k_fill
  refine Toy.walk (l := PySem.Challenge.rw_needonce_k24_instances_of_schemes) rfl rfl (fun w h Y => PySem.W.kIn_of Y) ?F
  case F =>
    intro w mg fa h KX G hmg
    refine' Toy.all_mk KX G hmg ?a0 ?l0 ?c0 ?k0 ?a1 ?l1 ?c1 ?k1 ?a2 ?l2 ?c2 ?k2 ?a3 ?l3 ?c3 ?k3 ?a4 ?l4 ?c4 ?k4 ?a5 ?l5 ?c5 ?k5 ?a6 ?l6 ?c6 ?k6 ?a7 ?l7 ?c7 ?k7 ?a8 ?l8 ?c8 ?k8 ?a9 ?l9 ?c9 ?k9 ?a10 ?l10 ?c10 ?k10 ?a11 ?l11 ?c11 ?k11 ?a12 ?l12 ?c12 ?k12 ?zlen ?zmin ?zint ?zrange ?zabs ?ztuple ?zlist ?zzip ?zisinstance ?zbool
    (case a0 => k_is)
    (case l0 => k_is)
    (case c0 => k_is)
    (case k0 => k_is)
    (case a1 => k_is)
    (case l1 => k_is)
    (case c1 => k_is)
    (case k1 => k_is)
    (case a2 => k_is)
    (case l2 => k_is)
    (case c2 => k_is)
    (case k2 => k_is)
    (case a3 => k_is)
    (case l3 => k_is)
    (case c3 => k_is)
    (case k3 => k_is)
    (case a4 => k_is)
    (case l4 => k_is)
    (case c4 => k_is)
    (case k4 => k_is)
    (case a5 => k_is)
    (case l5 => k_is)
    (case c5 => k_is)
    (case k5 => k_is)
    (case a6 => k_is)
    (case l6 => k_is)
    (case c6 => k_is)
    (case k6 => k_is)
    (case a7 => k_is)
    (case l7 => k_is)
    (case c7 => k_is)
    (case k7 => k_is)
    (case a8 => k_is)
    (case l8 => k_is)
    (case c8 => k_is)
    (case k8 => k_is)
    (case a9 => k_is)
    (case l9 => k_is)
    (case c9 => k_is)
    (case k9 => k_is)
    (case a10 => k_is)
    (case l10 => k_is)
    (case c10 => k_is)
    (case k10 => k_is)
    (case a11 => k_is)
    (case l11 => k_is)
    (case c11 => k_is)
    (case k11 => k_is)
    (case a12 => k_is)
    (case l12 => k_is)
    (case c12 => k_is)
    (case k12 => k_is)
    (case zlen => k_is)
    (case zmin => k_is)
    (case zint => k_is)
    (case zrange => k_is)
    (case zabs => k_is)
    (case ztuple => k_is)
    (case zlist => k_is)
    (case zzip => k_is)
    (case zisinstance => k_is)
    (case zbool => k_is)

