import PyProof.Rows.All
import Wide.All
import OpenK.AllK
import Wide.FinOn
import HandS.ForMost
import HandS.Codes
import HandS.IsInst
import HandS.Conv
import HandS.StrMore
import KE.OsScanText
import KE.KStrWords
import KE.KxText
import PySem.Challenge.RW_needonce_k26_types_that_cannot_be_equal
import HandS.TupAny
import KE.KRevSl
import HandS.More
import HandS.Zip0
import HandS.ListItems
import KE.KDictZip
import HandS.Star
import HandS.DictComp
import HandS.SetKeys
import HandS.ExcInit
import HandS.ExcField
import HandS.ExcIs
import HandS.ClsMeth
import HandS.TryMany
import HandS.WordsExc
import HandS.Small
import KE.KExcIs
import HandS.DictTup
import HandS.Deep
import HandS.Walk
import HandS.TupLe
set_option Elab.async false
set_option maxRecDepth 100000
set_option maxHeartbeats 4000000
/-! Part A: how defs are called, the drawing of numbers from the script. -/
namespace Toy
open PySem L2
open PyProof.Rows (envOfC)
def topS (i : Nat) : Stmt := PySem.Challenge.pw_needonce_k26_types_that_cannot_be_equal.main.body.getD i (.Pass ⟨0, 0, 0, 0⟩)
theorem boot_min : bootBuiltins "min" = some (.builtin "min") := by decide +kernel
theorem boot_isinstance : bootBuiltins "isinstance" = some (.builtin "isinstance") := by decide +kernel
theorem boot_abs : bootBuiltins "abs" = some (.builtin "abs") := by decide +kernel
theorem boot_int : bootBuiltins "int" = some (.type "int") := by decide +kernel
theorem boot_list : bootBuiltins "list" = some (.type "list") := by decide +kernel
/-- a written row of texts: what it is -/
def tStrs (zs : List Str) : TA := fun _ H Q => Q (zs.map V.str) H
def strE : Expr → Option Str
  | .Constant (.str z) _ _ => some z
  | _ => none
theorem strE_is {e : Expr} {z : Str} (h : strE e = some z) : ∃ j pos, e = .Constant (.str z) j pos := by
  unfold strE at h
  split at h
  · cases h
    exact ⟨_, _, rfl⟩
  · cases h
/-- a written row of texts -/
theorem pa_strs {X : Cx} : ∀ {es : List Expr} {zs : List Str}, es.map strE = zs.map some → PA X es (tStrs zs)
  | [], [], _ => pa_nil
  | [], _ :: _, h => by cases h
  | _ :: _, [], h => by cases h
  | e :: es, z :: zs, h => by
    rw [List.map_cons, List.map_cons] at h
    obtain ⟨h1, h2⟩ := List.cons.inj h
    obtain ⟨j, pos, rfl⟩ := strE_is h1
    exact pa_cons pe_str (pa_strs h2)
theorem strs_read {zs : List Str} {σ : L2.St} {H : Hp} {Q : List V → Hp → Prop} (h : Q (zs.map V.str) H) : tStrs zs σ H Q := h
/-- what the proofs ask of the module's names -/
structure TxtD (mg : Str → Option Value) : Prop where
  zlen : mg "len" = none
  zmin : mg "min" = none
  zint : mg "int" = none
  zrange : mg "range" = none
  zabs : mg "abs" = none
section
variable {P : Program} {w : World} {K : PySem.W.Frag} {mg : Str → Option Value} {base : Heap} 
/-- a def as one that may be called by its name -/
theorem cal_of {x : Str} {st : Stmt} {f : Addr} {fd : FuncData} {N ps : List Str} {k : Nat} {sp : Sp} (F : Fun K x x st f fd) (hm : mg x = some (.ref f)) (b : Binds K fd ps []) (S : FnScope N ps (defScope st)) (len : ∀ vs H Q E, sp vs H Q E → vs.length = ps.length)
    (hbody : ∀ (cdv : Value) (A : Around) (outer : List Env) (s : Shared) (H : Hp) (vs : List V) (Q : VK) (E : XK), Room k (A.deeper (envOfC x (defScope st) s.heap.objs.size f cdv)) → sp vs H Q E →
      ∃ t, PSs (cxOf CX0 P w K mg base N x (defScope st) f cdv A outer s H E).nox (defBody st) t ∧ t { nx := fun _ H' => Q .non H', rt := Q } (start N vs) H) : C8.Cal P w K mg base (k + 1) x sp [] :=
  ⟨f, fd, ps, [], F.ok S len hbody, hm, F.kp, b, .nil⟩
theorem same_new {H : Hp} {p : Addr} (h : H p = none) (o : HO) : Same H (upd H p o) := fun b u q => by rw [upd_ne (ne_of_none q h)]; exact q
theorem same_upd {H H' : Hp} {p : Addr} (h : H p = none) (s : Same H H') (o : HO) : Same H (upd H' p o) := fun b u q => by rw [upd_ne (ne_of_none q h)]; exact s b u q
theorem szl {n : Nat} (h : n ≤ 100000) : n < sizeLine := Nat.lt_of_le_of_lt h (by decide)
theorem at_ok {α : Type} {xs : List α} {k : Nat} (h : k < xs.length) : atI xs (0 + (k : Int)) = some xs[k] := by
  rw [Int.zero_add]
  exact atI_nat (List.getElem?_eq_getElem h)
theorem at_int {ns : List Int} {i : Int} (h0 : 0 ≤ i) (h1 : i < (ns.length : Int)) : ∃ v : Int, atI (ns.map V.int) i = some (.int v) := by
  have hk : i.toNat < ns.length := by omega
  refine ⟨ns[i.toNat], ?_⟩
  have q : atI (ns.map V.int) ((i.toNat : Nat) : Int) = some (.int ns[i.toNat]) := atI_nat (by rw [List.getElem?_map, List.getElem?_eq_getElem hk] <;> rfl)
  rw [show ((i.toNat : Nat) : Int) = i by omega] at q
  exact q

/-! ### the draws of a script -/
def dk3 (r : Addr) (i z : Int) : List (Key × V) := [(Sum.inr "row", .ref r), (Sum.inr "at", .int i), (Sum.inr "seed", .int z)]
theorem nk_ra : ¬ (Sum.inr ("row" : Str) : Key) = Sum.inr ("at" : Str) := by decide +kernel
theorem nk_rs : ¬ (Sum.inr ("row" : Str) : Key) = Sum.inr ("seed" : Str) := by decide +kernel
theorem nk_as : ¬ (Sum.inr ("at" : Str) : Key) = Sum.inr ("seed" : Str) := by decide +kernel
theorem nk_sa : ¬ (Sum.inr ("seed" : Str) : Key) = Sum.inr ("at" : Str) := by decide +kernel
theorem dk_row (r : Addr) (i z : Int) : valV (dk3 r i z) (Sum.inr "row" : Key) = some (.ref r) := valV_pos rfl
theorem dk_at (r : Addr) (i z : Int) : valV (dk3 r i z) (Sum.inr "at" : Key) = some (.int i) := (valV_neg nk_ra).trans (valV_pos rfl)
theorem dk_seed (r : Addr) (i z : Int) : valV (dk3 r i z) (Sum.inr "seed" : Key) = some (.int z) := (valV_neg nk_rs).trans ((valV_neg nk_as).trans (valV_pos rfl))
theorem dk_put (r : Addr) (i z j : Int) : putK (dk3 r i z) (Sum.inr "at" : Key) (.int j) = dk3 r j z := by
  have h1 : ¬ ("row" : Str) = "at" := by decide +kernel
  have h2 : ¬ ("seed" : Str) = "at" := by decide +kernel
  simp [putK, dk3, h1, h2]
theorem dk_merge (r : Addr) (z : Int) : mergeK [] [(Sum.inr "row", .ref r), (Sum.inr "at", .int 0), (Sum.inr "seed", .int z)] = dk3 r 0 z := by
  have h1 : ¬ ("row" : Str) = "at" := by decide +kernel
  have h2 : ¬ ("row" : Str) = "seed" := by decide +kernel
  have h3 : ¬ ("at" : Str) = "seed" := by decide +kernel
  simp [mergeK, putK, dk3, h1, h2, h3]
/-- a reader of draws stands at p -/
def DrawsAt (H : Hp) (p r : Addr) : Prop := ∃ (row : List Int) (i : Nat) (z : Int), H p = some (.dK (dk3 r (i : Int) z)) ∧ H r = some (.lst (row.map V.int))
theorem DrawsAt.same {H H' : Hp} {p r : Addr} (d : DrawsAt H p r) (s : Same H H') : DrawsAt H' p r := by
  obtain ⟨row, i, z, h1, h2⟩ := d
  exact ⟨row, i, z, s _ _ h1, s _ _ h2⟩
/-- all but p stays -/
def Keep (p : Addr) (H H' : Hp) : Prop := ∀ b o, b ≠ p → H b = some o → H' b = some o
abbrev sNext : Stmt := topS 13
theorem scNext : FnScope ["draws", "many", "at", "mixed"] ["draws", "many"] (defScope sNext) := ⟨rfl, rfl, rfl, by decide +kernel, rfl, by decide +kernel, by decide +kernel⟩
/-- some number below m; the reader moves on -/
def spNext : Sp := fun vs H Q _ => ∃ (p r : Addr) (m : Int), vs = [.ref p, .int m] ∧ 0 < m ∧ DrawsAt H p r ∧ ∀ (n : Int) (H' : Hp), 0 ≤ n → n < m → Keep p H H' → DrawsAt H' p r → Q (.int n) H'
theorem c_next {f : Addr} {fd : FuncData} (T : TxtD mg) (F : Fun K "_law_next" "_law_next" sNext f fd) (b : Binds K fd ["draws", "many"] []) (hm : mg "_law_next" = some (.ref f)) : C8.Cal P w K mg base 2 "_law_next" spNext [] := by
  refine cal_of F hm b scNext (fun vs H Q E h => ?_) (fun cdv A outer s H vs Q E hr h => ?_)
  · obtain ⟨p, r, m, rfl, _⟩ := h
    rfl
  obtain ⟨p, r, m, rfl, hm0, ⟨row, i, z, hp, hrow⟩, q⟩ := h
  have hu := hu_of hr
  have npr : r ≠ p := ne_of hrow hp (by intro z; cases z)
  refine ⟨_, (pss_cons (ps_set (i := 2) scNext.nd rfl (Or.inl rfl) (pe_dget hu (pv 0) pe_str (fun _ _ => rfl)))
    (pss_cons (ps_dput hu (pv 0) pe_str (pe_op op_add (pv 2) pe_int) rfl)
    (pss_cons (ps_if (pt_cmpR op_lt (pv 2) (pe_callB call_len_seq rfl T.zlen PySem.boot_len (pa_cons (pe_dget hu (pv 0) pe_str (fun _ _ => rfl)) pa_nil)) (nomark _))
      (pss_one (ps_ret (pe_op op_mod (pe_ix ix_list (pe_dget hu (pv 0) pe_str (fun _ _ => rfl)) (pv 2) (fun _ _ => rfl)) (pv 1))))
      pss_nil)
    (pss_cons (ps_set (i := 3) scNext.nd rfl (Or.inl rfl) (pe_op op_mod (pe_callTy call_int1 rfl T.zint boot_int (pa_cons (pe_op op_mul (pe_op op_add (pe_op op_add (pe_dget hu (pv 0) pe_str (fun _ _ => rfl)) (pe_op op_mul pe_int (pv 2))) pe_int) pe_int) pa_nil)) pe_int))
    (pss_one (ps_ret (pe_op op_mod (pe_op op_fdiv (pe_op op_mod (pe_callTy call_int1 rfl T.zint boot_int (pa_cons (pe_op op_add (pe_op op_mul (pv 3) (pv 3)) (pv 2)) pa_nil)) pe_int) pe_int) (pv 1)))))))), ?_⟩
  refine ⟨_, rfl, p, _, rfl, (dk_at r i z ▸ DGet.k (k := Sum.inr "at") hp), ?_⟩
  refine ⟨_, rfl, _, _, rfl, rfl, _, rfl, p, _, rfl, DPut.k (k := Sum.inr "at") hp (by show 3 < sizeLine; decide), ?_⟩
  rw [dk_put]
  have hp2 : upd H p (.dK (dk3 r ((i : Int) + 1) z)) p = some (.dK (dk3 r ((i : Int) + 1) z)) := upd_same
  have hr2 : upd H p (.dK (dk3 r ((i : Int) + 1) z)) r = some (.lst (row.map V.int)) := by rw [upd_ne npr]; exact hrow
  have fin : ∀ n : Int, 0 ≤ n → n < m → Q (.int n) (upd H p (.dK (dk3 r ((i : Int) + 1) z))) := fun n h0 h1 =>
    q n _ h0 h1 (fun b o hb e => by rw [upd_ne hb]; exact e) ⟨row, i + 1, z, by rw [upd_same]; rfl, hr2⟩
  refine ⟨_, rfl, _, rfl, p, _, rfl, (dk_row r _ z ▸ DGet.k (k := Sum.inr "row") hp2), r, _, rfl, .inl (SqL.of hr2), _, _, rfl, rfl, _, rfl, ?_⟩
  refine ite2 (fun c => ?_) (fun c => ?_)
  · have c' : (i : Int) < (((row.map V.int).length : Nat) : Int) := of_decide_eq_true c
    rw [List.length_map] at c'
    obtain ⟨v, hv⟩ := at_int (ns := row) (i := (i : Int)) (by omega) c'
    refine ⟨_, rfl, p, _, rfl, (dk_row r _ z ▸ DGet.k (k := Sum.inr "row") hp2), _, rfl, r, _, _, _, rfl, rfl, SqL.of hr2, hv, ?_⟩
    refine ⟨_, rfl, _, _, rfl, rfl, hm0, ?_⟩
    exact fin _ (Int.emod_nonneg _ (by omega)) (Int.emod_lt_of_pos _ hm0)
  · refine ⟨_, rfl, p, _, rfl, (dk_seed r _ z ▸ DGet.k (k := Sum.inr "seed") hp2), _, rfl, _, _, rfl, rfl, .inl (by decide), _, _, rfl, rfl, _, _, rfl, rfl, _, _, rfl, rfl, .inr (by decide), .inl ⟨_, rfl, _, _, rfl, rfl, (show (0 : Int) < 2147483647 by decide), ?_⟩⟩
    refine ⟨_, rfl, _, rfl, _, _, rfl, rfl, .inl ?_, _, rfl, _, _, rfl, rfl, .inl ⟨_, rfl, _, _, rfl, rfl, (show (0 : Int) < 2147483629 by decide), _, _, rfl, rfl, ⟨by decide, by decide⟩, _, rfl, _, _, rfl, rfl, hm0, ?_⟩⟩
    · omega
    · exact fin _ (Int.emod_nonneg _ (by omega)) (Int.emod_lt_of_pos _ hm0)
abbrev sDraws : Stmt := topS 11
theorem scDraws : FnScope ["script", "draws", "k", "cell", "turn", "mixed"] ["script"] (defScope sDraws) := ⟨rfl, rfl, rfl, by decide +kernel, rfl, by decide +kernel, by decide +kernel⟩
/-- some row of whole numbers, not longer than 1260 -/
def spDraws (K : PySem.W.Frag) : Sp := fun vs H Q _ => ∃ (a : Addr) (ns : List Int), vs = [.ref a] ∧ SqL K H a (ns.map V.int) ∧ ns.length ≤ 63 ∧ ∀ (r : Addr) (row : List Int) (H' : Hp), H r = none → Same H H' → row.length ≤ 1260 → H' r = some (.lst (row.map V.int)) → Q (.ref r) H'
theorem c_draws {f : Addr} {fd : FuncData} (T : TxtD mg) (F : Fun K "_law_draws" "_law_draws" sDraws f fd) (b : Binds K fd ["script"] []) (hm : mg "_law_draws" = some (.ref f)) : C8.Cal P w K mg base 1 "_law_draws" (spDraws K) [] := by
  refine cal_of F hm b scDraws (fun vs H Q E h => ?_) (fun cdv A outer s H vs Q E hr h => ?_)
  · obtain ⟨a, ns, rfl, _⟩ := h
    rfl
  obtain ⟨a, ns, rfl, hS, h63, q⟩ := h
  refine ⟨_, (pss_cons (ps_set (i := 1) scDraws.nd rfl (Or.inl rfl) (pe_lst pa_nil))
    (pss_cons (ps_for PassesOwn.never rfl (pi_range1 rfl T.zrange (pa_cons (pe_callB (call_min2 rfl) rfl T.zmin boot_min (pa_cons (pe_callB call_len_seq rfl T.zlen PySem.boot_len (pa_cons (pv 0) pa_nil)) (pa_cons pe_int pa_nil))) pa_nil)) (pg_name (i := 2) scDraws.nd rfl (Or.inl rfl))
      (pss_cons (ps_set (i := 3) scDraws.nd rfl (Or.inl rfl) (pe_callB call_abs rfl T.zabs boot_abs (pa_cons (pe_ix ix_list (pv 0) (pv 2) (fun _ _ => rfl)) pa_nil)))
    (pss_one (ps_if (pt_cmpR op_ge (pv 3) (pe_op op_pow pe_int pe_int) (nomark _))
      (pss_one (ps_for PassesOwn.never rfl (pi_range1 rfl T.zrange (pa_cons pe_int pa_nil)) (pg_name (i := 4) scDraws.nd rfl (Or.inl rfl))
      (pss_one (ps_if (pt_cmpR op_gt (pv 3) pe_int (nomark _))
      (pss_cons (ps_expr (pe_bm PySem.F.plainAttrs_list PySem.F.slot_list_append PySem.F.type_list_append mt_append (pv 1) (pa_cons (pe_op op_mod (pv 3) pe_int) pa_nil)))
    (pss_one (ps_set (i := 3) scDraws.nd rfl (Or.inl rfl) (pe_op op_fdiv (pv 3) pe_int))))
      pss_nil))))
      (pss_cons (ps_set (i := 5) scDraws.nd rfl (Or.inl rfl) (pe_op op_mod (pe_callTy call_int1 rfl T.zint boot_int (pa_cons (pe_op op_add (pe_op op_add (pe_op op_mul (pe_ix ix_list (pv 0) (pv 2) (fun _ _ => rfl)) pe_int) (pe_op op_mul (pv 2) pe_int)) pe_int) pa_nil)) pe_int))
    (pss_one (ps_for PassesOwn.never rfl (pi_range1 rfl T.zrange (pa_cons pe_int pa_nil)) (pg_name (i := 4) scDraws.nd rfl (Or.inl rfl))
      (pss_cons (ps_set (i := 5) scDraws.nd rfl (Or.inl rfl) (pe_op op_mod (pe_callTy call_int1 rfl T.zint boot_int (pa_cons (pe_op op_add (pe_op op_add (pe_op op_mul (pv 5) (pv 5)) (pe_op op_mul (pv 4) pe_int)) pe_int) pa_nil)) pe_int))
    (pss_one (ps_expr (pe_bm PySem.F.plainAttrs_list PySem.F.slot_list_append PySem.F.type_list_append mt_append (pv 1) (pa_cons (pe_op op_mod (pv 5) pe_int) pa_nil))))))))))))
    (pss_one (ps_ret (pv 1))))), ?_⟩
  refine ⟨(by show 0 ≤ sizeLine; decide), fun r hr0 => ?_⟩
  refine ⟨_, rfl, a, _, rfl, .inl ((same_new hr0 _).seq hS), _, _, rfl, _, rfl, ?_, ?_, for_range
    (fun (k : Nat) σ H2 => ∃ (kk c t x : Option V) (row : List Int), σ = [some (.ref a), some (.ref r), kk, c, t, x] ∧ Same H H2 ∧ H2 r = some (.lst (row.map V.int)) ∧ row.length ≤ 20 * k)
    ⟨none, none, none, none, [], rfl, same_new hr0 _, upd_same, by simp⟩ ?_ ?_⟩
  · split <;> omega
  · rw [List.length_map]
    split <;> omega
  · rintro k σ H2 hk ⟨kk, c, t, x, row, rfl, s2, hrow, hl⟩
    have hk' : (k : Int) < (ns.length : Int) := by
      rw [List.length_map] at hk
      split at hk <;> omega
    obtain ⟨v, hv⟩ := at_int (ns := ns) (i := 0 + (k : Int)) (by omega) (by omega)
    refine ⟨_, rfl, _, rfl, a, _, _, _, rfl, rfl, s2.seq hS, hv, _, rfl, ?_⟩
    refine ⟨_, rfl, _, _, rfl, rfl, ⟨by decide, by decide, by decide⟩, _, _, rfl, rfl, _, rfl, ?_⟩
    refine ite2 (fun _ => ?_) (fun _ => ?_)
    · refine ⟨20, rfl, by decide, by decide, for_range (fun (j : Nat) σ H3 => ∃ (t x : Option V) (c : Int) (row : List Int), σ = [some (.ref a), some (.ref r), some (.int (0 + (k : Int))), some (.int c), t, x] ∧ Same H H3 ∧ H3 r = some (.lst (row.map V.int)) ∧ row.length ≤ 20 * k + j)
        ⟨_, _, _, row, rfl, s2, hrow, by omega⟩ ?_ ?_⟩
      · rintro j σ H3 hj ⟨t, x, c, row, rfl, s3, hrow, hl⟩
        refine ⟨_, rfl, _, _, rfl, rfl, _, rfl, ?_⟩
        refine ite2 (fun _ => ?_) (fun _ => ?_)
        · refine ⟨_, rfl, .inl ⟨rfl, _, SqL.of hrow⟩, _, rfl, _, _, rfl, rfl, (show (0 : Int) < 1000 by decide), r, _, _, rfl, rfl, hrow, szl (by rw [List.length_map]; omega), ?_⟩
          refine ⟨_, rfl, _, _, rfl, rfl, ⟨by decide, by decide⟩, ?_⟩
          refine ⟨_, _, _, row ++ [c % 1000], rfl, same_upd hr0 s3 _, ?_, ?_⟩
          · rw [upd_same, List.map_append]
            rfl
          · rw [List.length_append]
            show row.length + 1 ≤ _
            omega
        · exact ⟨_, _, _, row, rfl, s3, hrow, by omega⟩
      · rintro σ H3 ⟨t, x, c, row, rfl, s3, hrow, hl⟩
        exact ⟨_, _, _, _, row, rfl, s3, hrow, by omega⟩
    · refine ⟨_, rfl, _, rfl, a, _, _, _, rfl, rfl, s2.seq hS, hv, _, _, rfl, rfl, .inr (by decide), _, rfl, _, _, rfl, rfl, .inr (by decide), _, _, rfl, rfl, _, _, rfl, rfl, .inl ⟨_, rfl, _, _, rfl, rfl, (show (0 : Int) < 2147483647 by decide), ?_⟩⟩
      refine ⟨3, rfl, by decide, by decide, for_range (fun (j : Nat) σ H3 => ∃ (t : Option V) (c x : Int) (row : List Int), (0 ≤ x ∧ x < 2147483648) ∧ σ = [some (.ref a), some (.ref r), some (.int (0 + (k : Int))), some (.int c), t, some (.int x)] ∧ Same H H3 ∧ H3 r = some (.lst (row.map V.int)) ∧ row.length ≤ 20 * k + j)
        ⟨_, _, _, row, by omega, rfl, s2, hrow, by omega⟩ ?_ ?_⟩
      · rintro j σ H3 hj ⟨t, c, x, row, hx, rfl, s3, hrow, hl⟩
        refine ⟨_, rfl, _, rfl, _, _, rfl, rfl, .inl (by omega), _, rfl, _, _, rfl, rfl, .inr (by decide), _, _, rfl, rfl, _, _, rfl, rfl, .inl ⟨_, rfl, _, _, rfl, rfl, (show (0 : Int) < 2147483629 by decide), ?_⟩⟩
        refine ⟨_, rfl, .inl ⟨rfl, _, SqL.of hrow⟩, _, rfl, _, _, rfl, rfl, (show (0 : Int) < 1000 by decide), r, _, _, rfl, rfl, hrow, szl (by rw [List.length_map]; omega), ?_⟩
        refine ⟨_, _, _, row ++ [(x * x + (0 + (j : Int)) * 7919 + 17) % 2147483629 % 1000], ?_, rfl, same_upd hr0 s3 _, ?_, ?_⟩
        · omega
        · rw [upd_same, List.map_append]
          rfl
        · rw [List.length_append]
          show row.length + 1 ≤ _
          omega
      · rintro σ H3 ⟨t, c, x, row, hx, rfl, s3, hrow, hl⟩
        exact ⟨_, _, _, _, row, rfl, s3, hrow, by omega⟩
  · rintro σ H2 ⟨kk, c, t, x, row, rfl, s2, hrow, hl⟩
    refine ⟨_, rfl, q r row H2 hr0 s2 ?_ hrow⟩
    split at hl <;> omega
theorem at_last {ns : List Int} (h : 0 < (ns.length : Int)) : ∃ v : Int, atI (ns.map V.int) (-1) = some (.int v) := by
  have hn : ns.length - 1 < ns.length := by omega
  refine ⟨ns[ns.length - 1], ?_⟩
  have e : ixN (ns.map V.int).length (-1) = some (ns.length - 1) := by
    unfold ixN
    rw [if_neg (by decide), List.length_map]
    rw [if_pos (by omega)]
    exact congrArg some (by omega)
  show (ixN (ns.map V.int).length (-1)).bind (fun j => (ns.map V.int)[j]?) = _
  rw [e]
  show (ns.map V.int)[ns.length - 1]? = _
  rw [List.getElem?_map, List.getElem?_eq_getElem hn]
  rfl
abbrev sReader : Stmt := topS 12
theorem scReader : FnScope ["script", "row", "seed"] ["script"] (defScope sReader) := ⟨rfl, rfl, rfl, by decide +kernel, rfl, by decide +kernel, by decide +kernel⟩
def spReader (K : PySem.W.Frag) : Sp := fun vs H Q _ => ∃ (a : Addr) (ns : List Int), vs = [.ref a] ∧ SqL K H a (ns.map V.int) ∧ ns.length ≤ 63 ∧ ∀ (p r : Addr) (H' : Hp), H p = none → Same H H' → DrawsAt H' p r → Q (.ref p) H'
theorem c_reader {f : Addr} {fd : FuncData} (T : TxtD mg) (c_law_draws : C8.Cal P w K mg base 1 "_law_draws" (spDraws K) []) (F : Fun K "_law_reader" "_law_reader" sReader f fd) (b : Binds K fd ["script"] []) (hm : mg "_law_reader" = some (.ref f)) : C8.Cal P w K mg base 2 "_law_reader" (spReader K) [] := by
  refine cal_of F hm b scReader (fun vs H Q E h => ?_) (fun cdv A outer s H vs Q E hr h => ?_)
  · obtain ⟨a, ns, rfl, _⟩ := h
    rfl
  obtain ⟨a, ns, rfl, hS, h63, q⟩ := h
  refine ⟨_, (pss_cons (ps_set (i := 1) scReader.nd rfl (Or.inl rfl) (C8.pe_c c_law_draws hr (by decide) rfl (pa_cons (pv 0) pa_nil)))
    (pss_cons (ps_set (i := 2) scReader.nd rfl (Or.inl rfl) pe_int)
    (pss_cons (ps_if (pt_cmpR op_gt (pe_callB call_len_seq rfl T.zlen PySem.boot_len (pa_cons (pv 0) pa_nil)) pe_int (nomark _))
      (pss_one (ps_set (i := 2) scReader.nd rfl (Or.inl rfl) (pe_op op_mod (pe_callB call_abs rfl T.zabs boot_abs (pa_cons (pe_ix ix_list (pv 0) (pe_un un_neg pe_int) (fun _ _ => rfl)) pa_nil)) pe_int)))
      pss_nil)
    (pss_one (ps_ret (pe_disp (pps_cons pe_str (pv 1) (pps_cons pe_str pe_int (pps_cons pe_str (pv 2) pps_nil))) rfl rfl (by decide) (by decide))))))), ?_⟩
  refine ⟨_, rfl, a, ns, rfl, hS, h63, fun r row H2 hr0 s2 hl hrow => ?_⟩
  have fin : ∀ (z : Int) (p : Addr), H2 p = none → Q (.ref p) (upd (upd H2 p (.dK [])) p (.dK (mergeK [] [(Sum.inr "row", .ref r), (Sum.inr "at", .int 0), (Sum.inr "seed", .int z)]))) := fun z p hp => by
    have np : r ≠ p := ne_of_none hrow hp
    refine q p r _ (s2.free hp) (same_upd (s2.free hp) (same_upd (s2.free hp) s2 _) _) ⟨row, 0, z, ?_, by rw [upd_ne np, upd_ne np]; exact hrow⟩
    rw [upd_same, dk_merge]
    rfl
  refine ⟨_, rfl, a, _, rfl, .inl (s2.seq hS), _, _, rfl, rfl, _, rfl, ?_⟩
  refine ite2 (fun c => ?_) (fun c => ?_)
  · have c' : (0 : Int) < (((ns.map V.int).length : Nat) : Int) := of_decide_eq_true c
    rw [List.length_map] at c'
    obtain ⟨v, hv⟩ := at_last (ns := ns) c'
    refine ⟨_, rfl, _, rfl, a, _, _, _, rfl, rfl, s2.seq hS, hv, _, rfl, _, _, rfl, rfl, (show (0 : Int) < 1000003 by decide), ?_⟩
    intro p hp
    have np : r ≠ p := ne_of_none hrow hp
    refine ⟨_, rfl, _, rfl, upd_same, [(Sum.inr "row", V.ref r), (Sum.inr "at", V.int 0), (Sum.inr "seed", V.int _)], rfl, (by show 3 ≤ 15; decide), ?_⟩
    exact fin _ p hp
  · intro p hp
    have np : r ≠ p := ne_of_none hrow hp
    refine ⟨_, rfl, _, rfl, upd_same, [(Sum.inr "row", V.ref r), (Sum.inr "at", V.int 0), (Sum.inr "seed", V.int _)], rfl, (by show 3 ≤ 15; decide), ?_⟩
    exact fin _ p hp

end
end Toy

set_option Elab.async false
set_option linter.all false
set_option maxRecDepth 100000
set_option maxHeartbeats 4000000
/-! Part X: own rules: l.extend(tuple). -/
namespace Toy
open PySem PySem.Spec PyProof.Rows L2
/-- list.extend of a tuple, whatever stands beside its items -/
theorem extend_tupW (l : Addr) (items : Array Value) (n : Nat) (b : Addr) (items2 : Array Value) (n2 : Nat) (dd2 : Option Addr) (sl2 : Array (Option Value)) (hs0 : ¬(!items.isEmpty && Builtin.List.listTooLong (items.size + items2.size)) = true) (hs1 : items.size ≤ sizeLine) (hs2 : items.size + items2.size ≤ sizeLine + 1) :
    Meets (Builtin.«list.extend» ⟨[.ref l, .ref b], []⟩) (fun _ R s => s.heap.get? l = some { cls := .type "list", dict := none, data := .seq items n, slots := #[] } ∧ s.heap.get? b = some { cls := .type "tuple", dict := dd2, data := .seq items2 n2, slots := sl2 } ∧ R (.ok (.ret Value.none)) { s with heap := s.heap.update l (Obj.mapSeq fun x => x ++ items2), toks := s.toks }) :=
  .of_wp fun prog w A R s h => by
    obtain ⟨hp, g, d, tk, os⟩ := s
    obtain ⟨hl, hb, h⟩ := h
    have f1 := AutoSeq1.idx_int
    have f2 := AutoSeq1.sub_tuple_tuple
    have f3 := AutoSeq1.sub_list_list
    have f4 := AutoSeq1.sub_tuple_list
    have f5 := AutoSeq1.sub_list_tuple
    have hz' : (items ++ items2).size ≤ sizeLine + 1 := by rw [Array.size_append]; exact hs2
    wp_walk using (wpAny_updateSeq hl rfl (hz := hs1) (_hz' := hz')), AutoSeq1.wpAny_loadPart' hl, AutoSeq1.wpAny_loadPart' hb
    exact ⟨_, rfl, h⟩
def rExtendT (K : PySem.W.Frag) : V → List V → Hp → VK → Prop := fun x vs H Q => ∃ l b xs zs, x = .ref l ∧ vs = [.ref b] ∧ H l = some (.lst xs) ∧ SqT K H b zs ∧ xs.length + zs.length ≤ sizeLine ∧ Q .non (upd H l (.lst (xs ++ zs)))
theorem mt_extendT {X : Cx} : MtM X "list.extend" (rExtendT X.K) := by
  intro pins s σ H x vs v us Q I rx rv h
  obtain ⟨l, b, xs, zs, rfl, rfl, hH, hB, hz, q⟩ := h
  cases rx
  obtain ⟨u, rfl, ru⟩ := rv.one
  cases ru
  obtain ⟨z, its, n, r, hl, e⟩ := I.lstM hH
  obtain ⟨its2, r2, ht2, hz2⟩ := I.tuple hB
  obtain ⟨⟨cls2, dd2, data2, sl2⟩, ho2, hc2, n2, hd2⟩ := id ht2
  simp only at hc2 hd2
  subst hc2 hd2
  have l1 := r.length
  have l2 := r2.length
  have hsz : its.toArray.size + its2.toArray.size ≤ sizeLine := by rw [List.size_toArray, List.size_toArray]; omega
  have hlong : ¬ (!its.toArray.isEmpty && Builtin.List.listTooLong (its.toArray.size + its2.toArray.size)) = true := by
    rw [notLongL hsz, Bool.and_false]
    exact Bool.false_ne_true
  refine call_meets PySem.F.slot_list_extend ⟨_, e, rfl⟩ PySem.F.entry_list_extend (PySem.F.args_list_extend_2 _ _)
    (extend_tupW l its.toArray n b its2.toArray n2 dd2 sl2 hlong (by rw [List.size_toArray]; omega) (by omega)) ⟨e, ho2, ?_⟩
  refine ⟨.non, _, I.lset (its' := its ++ its2) hH e (by simp) (r.append r2) ?_, rfl, q⟩
  rw [List.length_append]
  omega

/-! ### t[::-1], t a tuple -/
section
variable {prog : Program} {w : World} {A : Around} {E : Value → Shared → Prop} {s : Shared}
theorem rev_adjust (n : Nat) : Builtin.Slice.sliceAdjust none none (-1) (n : Int) = ((n : Int) - 1, -1) := by
  first
    | rfl
    | simp [Builtin.Slice.sliceAdjust]
theorem rev_places (n : Nat) : Builtin.Slice.slicePlaces ((n : Int) - 1) (-1) (-1) = n := by
  unfold Builtin.Slice.slicePlaces
  by_cases h : n = 0
  · subst h
    decide
  · simp
    omega
theorem sliceApplied_rev {sl : Addr} {tk : Tok} {n : Nat} {Q : Int × Int × Nat → Shared → Prop} (hs : s.heap.IsSliceOf sl .none .none (.int (-1) tk))
    (h : Q ((n : Int) - 1, -1, n) s) : wpAny (model prog w) A (Builtin.Slice.sliceApplied (.ref sl) (pure (n : Int))) Q E s := by
  obtain ⟨os, hos, hcs, hds⟩ := id hs
  unfold Builtin.Slice.sliceApplied Builtin.Slice.sliceFields
  refine wpAny_bind (wpAny_bind (wpAny_field hos hds (x := .none) rfl (wpAny_bind (wpAny_field hos hds (x := .none) rfl (wpAny_bind (wpAny_field hos hds (x := .int (-1) tk) rfl (wpAny_pure ?_)))))))
  refine wpAny_bind (HT.slicePart_ (.int (-1) tk) ?_)
  show wpAny _ _ (if ((-1 : Int) == 0) = true then _ else _) _ _ s
  rw [if_neg (by decide)]
  refine wpAny_bind (HT.slicePart_ .none (wpAny_bind (HT.slicePart_ .none (wpAny_bind (wpAny_pure ?_)))))
  show wpAny _ _ (match Builtin.Slice.sliceAdjust none none (-1) (n : Int) with | (lo, hi) => pure (lo, (-1 : Int), Builtin.Slice.slicePlaces lo hi (-1))) _ _ s
  rw [rev_adjust n]
  show wpAny _ _ (pure ((n : Int) - 1, (-1 : Int), Builtin.Slice.slicePlaces ((n : Int) - 1) (-1) (-1))) _ _ s
  rw [rev_places]
  exact wpAny_pure h
theorem fm_congr {α β : Type} {f g : α → Option β} : ∀ {l : List α}, (∀ x ∈ l, f x = g x) → l.filterMap f = l.filterMap g
  | [], _ => rfl
  | a :: l, h => by
    rw [List.filterMap_cons, List.filterMap_cons, h a (List.mem_cons_self ..), fm_congr fun x hx => h x (List.mem_cons_of_mem _ hx)]
theorem pick_rev (xs : Array Value) : ((List.range xs.size).filterMap fun (m : Nat) => xs[((xs.size : Int) - 1 + (m : Int) * -1).toNat]?).toArray = xs.toList.reverse.toArray := by
  congr 1
  have e1 : ((List.range xs.size).filterMap fun (m : Nat) => xs[((xs.size : Int) - 1 + (m : Int) * -1).toNat]?) = ((List.range xs.size).map fun k => xs.size - 1 - k).filterMap (xs[·]?) := by
    rw [List.filterMap_map]
    refine fm_congr fun m hm => ?_
    have hm' := List.mem_range.mp hm
    show xs[((xs.size : Int) - 1 + (m : Int) * -1).toNat]? = xs[xs.size - 1 - m]?
    rw [show ((xs.size : Int) - 1 + (m : Int) * -1).toNat = xs.size - 1 - m by omega]
  rw [e1, PySem.W.krv_range, List.filterMap_reverse, PySem.W.krv_all]
theorem getItem_tuple_rev {t sl : Addr} {items : Array Value} {tk : Tok} {Q : Value → Shared → Prop} (ht : IsTup s.heap t items) (hs : s.heap.IsSliceOf sl .none .none (.int (-1) tk))
    (h : Q (.ref s.heap.objs.size) { s with heap := s.heap.push { cls := .type "tuple", data := .seq items.toList.reverse.toArray } }) (hsz : items.size ≤ sizeLine) : wpAny (model prog w) A (getItem (.ref t) (.ref sl)) Q E s := by
  have htake : sizeOk (.seq items.toList.reverse.toArray) := by
    show items.toList.reverse.toArray.size ≤ sizeLine
    rw [List.size_toArray, List.length_reverse, Array.length_toList]
    exact hsz
  obtain ⟨os, hos, hcs, hds⟩ := id hs
  have hTs : s.TypeIs (.ref sl) "slice" := ⟨os, hos, hcs⟩
  unfold getItem
  try with_reducible refine wpAny_holding ?_
  first | refine wpAny_bind (wpAny_pure ?_) | skip
  refine wpAny_bind (wpAny_sequenceKey ht.typeIs (by decide) ?_)
  refine wpAny_bind (wpAny_callSpecial?_slot (name := Str.ofString "__getitem__") ht.typeIs PyProof.Rows.slot_tuple_getitem
    (wpAny_call_entry PyProof.Rows.slot_tuple_getitem ht.typeIs entry_tuple_getitem ?_ (args_tuple_getitem _ _)))
  show wpAny _ _ (Builtin.Tuple.tupleItemsOf (.ref t) >>= _) _ _ s
  refine wpAny_bind (tupleItemsOf_ ht ?_)
  refine wpAny_bind (wpAny_typeOf hTs ?_)
  rw [if_pos (by decide)]
  refine wpAny_bind (sliceApplied_rev hs ?_)
  have hno : ¬ ((((items.size : Int) - 1) == 0 && (-1 : Int) == 1 && items.size == items.size) = true) := by
    intro q
    rw [Bool.and_eq_true, Bool.and_eq_true] at q
    exact absurd q.1.2 (by decide)
  show wpAny _ _ (if (((items.size : Int) - 1) == 0 && (-1 : Int) == 1 && items.size == items.size) = true then _ else _) _ _ s
  rw [if_neg hno, pick_rev]
  first
    | exact wpAny_bind (m := Builtin.Tuple.tupleExact _) (wpAny_newObj_type (wpAny_pure ⟨_, rfl, wpAny_pure h⟩) htake)
    | exact wpAny_bind (m := Builtin.Tuple.tupleExact _) (wpAny_newObj_type (wpAny_bind (wpAny_pure (wpAny_pure ⟨_, rfl, wpAny_pure h⟩))) htake)
    | exact wpAny_bind (wpAny_bind (m := Builtin.Tuple.tupleExact _) (wpAny_newObj_type (wpAny_pure (wpAny_pure ⟨_, rfl, wpAny_pure h⟩)) htake))
    | exact wpAny_bind (wpAny_bind (m := Builtin.Tuple.tupleExact _) (wpAny_newObj_type (wpAny_pure ⟨_, rfl, wpAny_pure h⟩) htake))
end
section
variable {X : Cx} {e st : Expr} {te ts : TE} {p2 pos : Pos}
/-- t[::st], where st is -1 and t a tuple -/
def tRev (K : PySem.W.Frag) (te ts : TE) : TE := fun σ H Q => te σ H fun x H1 => ts σ H1 fun k H2 => k = .int (-1) ∧ ∃ a xs, x = .ref a ∧ SqT K H2 a xs ∧ ∀ p, H2 p = none → Q (.ref p) (upd H2 p (.tup xs.reverse))
theorem pe_rev {ops : Addr → Addr → List Value} (he : PE X e te) (hst : PE X st ts) (hops : ∀ a b : Addr, subscripted (.Slice none none (some st) p2) false (.ref a) (.ref b) = operate (ops a b) (getItem (.ref a) (.ref b))) : PE X (.Subscript e (.Slice none none (some st) p2) pos) (tRev X.K te ts) := by
  refine ⟨fun pins s σ H Q I h => ?_⟩
  refine Subscript_ (thn (he.run pins s σ H _ I h) fun v s1 ⟨x, H1, I1, r1, q1⟩ => ?_)
  refine wpAny_Slice ?_
  rw [evalPart_none]
  refine wpAny_pure ?_
  refine wpAny_pure ?_
  rw [evalPart_some]
  refine thn (hst.run pins s1 σ H1 _ I1 q1) fun vk s3 ⟨k, H3, I3, rk, ek, a, xs, ex, hx, q⟩ => ?_
  subst ek ex
  obtain ⟨tk, rfl⟩ := rk
  cases r1
  have I4 : Inv X pins σ H3 { s3 with heap := s3.heap.push { cls := .type "slice", data := .fields #[.none, .none, .int (-1) tk] } } := I3.kept (t' := s3.toks) fun b ob q => Heap.get?_push_of_some _ q
  obtain ⟨its, r, ht, hz⟩ := I4.tuple hx
  have hlen : its.toArray.size = xs.length := by rw [List.size_toArray]; exact r.length.symm
  show wpAny (model X.prog X.w) X.A (subscriptTail e (.Slice none none (some st) p2) (.ref a) (.ref s3.heap.objs.size)) (EP X pins σ Q) X.xe { s3 with heap := s3.heap.push { cls := .type "slice", data := .fields #[.none, .none, .int (-1) tk] } }
  refine tail_any (ops := ops a s3.heap.objs.size) ht.typeIs PyProof.Rows.slot_tuple_getitem.lookup (getItem_tuple_rev ht (Heap.IsSliceOf.new ..) ?_ (by rw [hlen]; exact hz)) (hops _ _)
  refine ⟨.ref _, _, I4.laid (t' := s3.toks) (o := .tup xs.reverse) (fun b ob q => Heap.get?_push_of_some _ q) (Nat.le_refl _) ?_, rfl, q _ (I4.hok.fresh (Nat.le_refl _))⟩
  exact ⟨by rw [List.length_reverse]; exact hz, _, r.reverse, IsTup.new _ _⟩
end
example {X : Cx} {e : Expr} {te : TE} {p1 p2 p3 p4 : Pos} (he : PE X e te) : ∃ t, PE X (.Subscript e (.Slice none none (some (.UnaryOp .USub (.Constant (.int 1) 0 p1) p2)) p3) p4) t := ⟨_, pe_rev he (pe_un un_neg pe_int) (fun _ _ => by with_unfolding_all rfl)⟩

/-! ### tuple(d), d a dict: its keys -/
section
variable {X : Cx}
theorem call_tupleD (hcalm : X.calm = true) : CallR X (.type "tuple") (fun xs H Q => ∃ (a : Addr) (kvs : List (Key × V)), xs = [.ref a] ∧ Rd H a (.dK kvs) ∧ ∀ p, H p = none → Q (.ref p) (upd H p (.tup (kvs.map fun kv => kV kv.1)))) := by
  intro pins s σ H xs us Q I r q
  obtain ⟨a, kvs, ex, hd, q⟩ := q
  subst ex
  obtain ⟨u, eu, rx⟩ := vals1 r
  subst eu
  cases rx
  obtain ⟨z, lo, vs, rel, dd⟩ := dk_rd I.hok hd
  obtain ⟨ep, hat⟩ := dd.dictAt
  have ek : (kvs.map fun kv => kV kv.1) = vs.map fun p => kV p.1 := by
    have e := congrArg (List.map kV) rel.keys
    rw [List.map_map, List.map_map] at e
    exact e
  have hn : vs.length ≤ sizeLine := by rw [← rel.length]; exact z
  have hTI : s.TypeIs (.ref a) "dict" := by
    obtain ⟨o, es, ho, hex, _⟩ := id hat
    exact ⟨o, ho, hex.1⟩
  refine callType_codes (Q₁ := fun obj s₁ => s₁.TypeIs obj "tuple" ∧ EP X pins σ Q obj s₁) PySem.F.called_tuple (PySem.F.typeCall_tuple_1 _) PySem.F.entry_object_init ?_ fun obj s₁ h₁ => ?_
  · refine codeAny_of_tree ?_
    show wpAny _ X.A.in1.in1 (do checkBuiltinCall "tuple.__new__" ⟨[.type "tuple", .ref a], []⟩; again (.builtin "tuple.__new__" ⟨[.type "tuple", .ref a], []⟩)) _ _ s
    refine wpAny_bind (wpAny_of_eq (PySem.F.newCall_tuple_1 _) (wpAny_pure ⟨plainId_quiet PySem.F.plain_tuple_new _, codeAny_builtin PySem.F.entry_tuple_new ?_⟩))
    rw [Around.under_plainId PySem.F.plain_tuple_new _]
    have hsub := sub_tuple_self
    have hinit := init_tuple_lookup
    have hmh := madeHere_tuple
    wp_walk using wpAny_typeOf hTI, (PySem.W.kdu_collect (PySem.W.kdl_dict (knd := mixKind X.prog X.w) (kvs := vs) (ep := ep) lo) (show X.A.in1.in1.handled = none from I.ok.hd hcalm) hat hn)
    intro h' tk acc hk hacc
    show wpAny _ _ (Builtin.Tuple.tupleExact acc.toList.toArray >>= fun v => ret v) _ _ _
    have hz : acc.toList.length ≤ sizeLine := by rw [Array.length_toList, hacc.1]; exact hn
    have hv : Vals (vs.map fun p => kV p.1) acc.toList := keys_at (by rw [Array.length_toList]; exact hacc.1) fun j v e => hacc.2 j v (by rw [← Array.getElem?_toList]; exact e)
    have I1 : Inv X pins σ H { s with heap := h', toks := tk } := I.kept (t' := tk) hk
    unfold Builtin.Tuple.tupleExact
    refine wpAny_bind (wpAny_newObj_type ?_ (by show acc.toList.toArray.size ≤ sizeLine; rw [List.size_toArray]; exact hz))
    refine wpAny_pure ⟨⟨_, Heap.get?_push_size _ rfl, rfl⟩, ?_⟩
    refine ⟨.ref h'.objs.size, upd H h'.objs.size (.tup (kvs.map fun kv => kV kv.1)), I1.laid (t' := tk) (fun b o e => Heap.get?_push_of_some _ e) (Nat.le_refl _) (show ObjOk X.prog X.w _ _ _ (.tup (kvs.map fun kv => kV kv.1)) from ⟨by rw [ek, List.length_map]; exact hn, acc.toList, by rw [ek]; exact hv, IsTup.new _ _⟩), rfl, q _ (I1.hok.fresh (Nat.le_refl _))⟩
  · exact ⟨h₁.1, PySem.F.args_object_init_2 obj _, object_init_meets PySem.F.called_tuple.init.lookup PySem.F.called_tuple.made (by decide) X.prog X.w X.A.in1 _ s₁ ⟨h₁.1, rfl, h₁.2⟩⟩
end
end Toy

set_option Elab.async false
set_option linter.all false
set_option maxRecDepth 100000
set_option maxHeartbeats 4000000
/-! Part Z: own rule: list(zip(t, u)) of two tuples. -/
namespace Toy
open PySem PySem.Spec PyProof.Rows L2
theorem zip_lenless : typeLookup (.type "zip") "__len__" = pure none := am_miss_of_fast (by first | decide +kernel | rfl)
theorem zip_hintless : typeLookup (.type "zip") "__length_hint__" = pure none := am_miss_of_fast (by first | decide +kernel | rfl)
section
variable {prog : Program} {w : World} {A : Around} {E : Value → Shared → Prop} {s : Shared}
/-- next, while the pair given out before is there -/
theorem zt_held_item {zz ti to tt i1 i2 ta tb : Addr} {fl : Bool} {ob : Obj} {m : Nat} {us vs : Array Value} {u v : Value} {Q : Value → Shared → Prop} (D : ZipApart zz ti to i1 i2 ta tb)
    (hz : IsZipHeld s.heap zz ti to tt fl) (ht : s.heap.get? tt = some ob) (hp : IsPair s.heap ti (.ref i1) (.ref i2))
    (j1 : s.heap.IsTupleIter i1 ta m) (j2 : s.heap.IsTupleIter i2 tb m) (k1 : s.heap.IsTuple ta us) (k2 : s.heap.IsTuple tb vs) (hu : us[m]? = some u) (hv : vs[m]? = some v)
    (next : ∀ g, IsZipHeld g zz ti to tt true → g.IsTupleIter i1 ta (m + 1) → g.IsTupleIter i2 tb (m + 1) → IsPair g s.heap.objs.size u v → g.objs.size = s.heap.objs.size + 1 →
      (∀ c o, c ≠ zz → c ≠ i1 → c ≠ i2 → s.heap.get? c = some o → g.get? c = some o) → Q (.ref s.heap.objs.size) { s with heap := g }) :
    wpAny (model prog w) A (Builtin.«zip.__next__» ⟨[.ref zz], []⟩) (fun fin s' => ∃ r, fin = .done (.ret r) ∧ Q r s') E s := by
  show wpAny _ _ (field (.ref zz) 2 >>= _) _ _ _
  refine wpAny_bind (wpAny_field hz rfl (x := .bool false) rfl ?_)
  show wpAny _ _ (field (.ref zz) 3 >>= _) _ _ _
  refine wpAny_bind (wpAny_field hz rfl (x := .ref ti) rfl ?_)
  refine wpAny_bind (wpAny_seqItems hp rfl ?_)
  show wpAny _ _ (Builtin.SmallTypes.ownedTupleIsFree (.ref zz) >>= _) _ _ _
  refine wpAny_bind (wpAny_tupleHeld_zip hz ht fun g1 z1 b1 => ?_)
  simp only [Bool.false_eq_true, if_false]
  refine wpAny_bind ?_
  rw [← Array.forIn_toList]
  simp only [List.forIn_cons, List.forIn_nil]
  refine wpAny_bind (wpAny_bind (wpAny_holding ?_))
  show wpAny _ _ (Builtin.SmallTypes.nextOf (.ref i1) >>= _) _ _ _
  refine wpAny_bind (RZ.nextOf_tuple_item (s := { s with heap := g1 }) (j1.extBut b1.extBut D.i1z) (k1.extBut b1.extBut D.l1z) hu fun g2 y1 b2 => wpAny_pure (wpAny_pure ?_))
  refine wpAny_bind (wpAny_bind (wpAny_holding ?_))
  show wpAny _ _ (Builtin.SmallTypes.nextOf (.ref i2) >>= _) _ _ _
  refine wpAny_bind (RZ.nextOf_tuple_item (s := { s with heap := g2 }) ((j2.extBut b1.extBut D.i2z).extBut b2.extBut D.i12.symm) ((k2.extBut b1.extBut D.l2z).extBut b2.extBut D.l2i1) hv fun g3 y2 b3 => wpAny_pure (wpAny_pure (wpAny_pure ?_)))
  show wpAny _ _ (newTuple [u, v] >>= _) _ _ _
  refine wpAny_bind (wpAny_newTuple ?_)
  have sz : g3.objs.size = s.heap.objs.size := by rw [b3.1, b2.1, b1.1]
  have z3 : IsZipHeld g3 zz ti to tt true := b3.extBut _ _ D.i2z.symm (b2.extBut _ _ D.i1z.symm z1)
  have kp : ∀ c o, c ≠ zz → c ≠ i1 → c ≠ i2 → s.heap.get? c = some o → g3.get? c = some o := fun c o n1 n2 n3 q => b3.extBut _ _ n3 (b2.extBut _ _ n2 (b1.extBut _ _ n1 q))
  refine wpAny_pure ⟨_, rfl, ?_⟩
  show Q (.ref g3.objs.size) _
  have new : IsPair (g3.push { cls := .type "tuple", data := .seq #[u, v] }) g3.objs.size u v := Heap.get?_push_size _ rfl
  have s4 : (g3.push { cls := .type "tuple", data := .seq #[u, v] }).objs.size = g3.objs.size + 1 := Heap.size_push ..
  rw [sz] at new s4 ⊢
  exact next _ (Heap.get?_push_of_some _ z3) ((y1.extBut b3.extBut D.i12).at fun o q => Heap.get?_push_of_some _ q) (y2.at fun o q => Heap.get?_push_of_some _ q) new s4 fun c o n1 n2 n3 q => Heap.get?_push_of_some _ (kp c o n1 n2 n3 q)
theorem zt_held_end {zz ti to tt i1 i2 ta tb : Addr} {fl : Bool} {ob : Obj} {m : Nat} {us vs : Array Value} {Q : Fin → Shared → Prop} (hh : A.handled = none) (D : ZipApart zz ti to i1 i2 ta tb)
    (hz : IsZipHeld s.heap zz ti to tt fl) (ht : s.heap.get? tt = some ob) (hp : IsPair s.heap ti (.ref i1) (.ref i2))
    (j1 : s.heap.IsTupleIter i1 ta m) (j2 : s.heap.IsTupleIter i2 tb m) (k1 : s.heap.IsTuple ta us) (k2 : s.heap.IsTuple tb vs) (fin : us[m]? = none ∨ vs[m]? = none)
    (stop : ∀ g e, (∀ c o, c ≠ zz → c ≠ i1 → c ≠ i2 → s.heap.get? c = some o → g.get? c = some o) → (∃ o, g.get? e = some o ∧ o.cls = .type "StopIteration") → E (.ref e) { s with heap := g }) :
    wpAny (model prog w) A (Builtin.«zip.__next__» ⟨[.ref zz], []⟩) Q E s := by
  show wpAny _ _ (field (.ref zz) 2 >>= _) _ _ _
  refine wpAny_bind (wpAny_field hz rfl (x := .bool false) rfl ?_)
  show wpAny _ _ (field (.ref zz) 3 >>= _) _ _ _
  refine wpAny_bind (wpAny_field hz rfl (x := .ref ti) rfl ?_)
  refine wpAny_bind (wpAny_seqItems hp rfl ?_)
  show wpAny _ _ (Builtin.SmallTypes.ownedTupleIsFree (.ref zz) >>= _) _ _ _
  refine wpAny_bind (wpAny_tupleHeld_zip hz ht fun g1 z1 b1 => ?_)
  simp only [Bool.false_eq_true, if_false]
  refine wpAny_bind ?_
  rw [← Array.forIn_toList]
  simp only [List.forIn_cons, List.forIn_nil]
  refine wpAny_bind (wpAny_bind (wpAny_holding ?_))
  show wpAny _ _ (Builtin.SmallTypes.nextOf (.ref i1) >>= _) _ _ _
  have fits : A.handled = none := hh
  cases hu : us[m]? with
  | none =>
    refine wpAny_bind (RZ.nextOf_tuple_end (s := { s with heap := g1 }) hh (j1.extBut b1.extBut D.i1z) (k1.extBut b1.extBut D.l1z) hu fun g2 e b2 he => ?_)
    exact stop g2 e (fun c o n1 n2 _ q => b2 _ _ n2 (b1.extBut _ _ n1 q)) he
  | some u =>
    have hv : vs[m]? = none := by
      rcases fin with q | q
      · rw [hu] at q; cases q
      · exact q
    refine wpAny_bind (RZ.nextOf_tuple_item (s := { s with heap := g1 }) (j1.extBut b1.extBut D.i1z) (k1.extBut b1.extBut D.l1z) hu fun g2 y1 b2 => wpAny_pure (wpAny_pure ?_))
    refine wpAny_bind (wpAny_bind (wpAny_holding ?_))
    show wpAny _ _ (Builtin.SmallTypes.nextOf (.ref i2) >>= _) _ _ _
    refine wpAny_bind (RZ.nextOf_tuple_end (s := { s with heap := g2 }) hh ((j2.extBut b1.extBut D.i2z).extBut b2.extBut D.i12.symm) ((k2.extBut b1.extBut D.l2z).extBut b2.extBut D.l2i1) hv fun g3 e b3 he => ?_)
    exact stop g3 e (fun c o n1 n2 n3 q => b3 _ _ n3 (b2.extBut _ _ n2 (b1.extBut _ _ n1 q))) he
/-- a zip of two tuples before its turn m; the pair given out last is alive -/
structure ZtAt (h : Heap) (zz ti to i1 i2 ta tb : Addr) (m : Nat) : Prop where
  pair : IsPair h ti (.ref i1) (.ref i2)
  it1 : h.IsTupleIter i1 ta m
  it2 : h.IsTupleIter i2 tb m
  out : (IsZip h zz ti to .none ∧ ∃ a b, IsPair h to a b) ∨ ∃ tt fl o, IsZipHeld h zz ti to tt fl ∧ h.get? tt = some o ∧ tt ≠ zz ∧ tt ≠ to ∧ tt ≠ i1 ∧ tt ≠ i2
theorem ZtAt.type {zz ti to i1 i2 ta tb : Addr} {m : Nat} {s : Shared} (z : ZtAt s.heap zz ti to i1 i2 ta tb m) : s.TypeIs (.ref zz) "zip" := by
  rcases z.out with ⟨q, _⟩ | ⟨_, _, _, q, _⟩
  · exact ⟨_, q, rfl⟩
  · exact ⟨_, q, rfl⟩
theorem ZtAt.keep {h g : Heap} {zz ti to i1 i2 ta tb S : Addr} {m : Nat} (z : ZtAt h zz ti to i1 i2 ta tb m) (hS : ∀ c, c = zz ∨ c = ti ∨ c = to ∨ c = i1 ∨ c = i2 → c ≠ S) (nt : ∀ o, h.get? S = some o → o.cls = .type "list")
    (ha : ∀ tt o, h.get? tt = some o → ∃ o', g.get? tt = some o') (k : ∀ c o, c ≠ S → h.get? c = some o → g.get? c = some o) : ZtAt g zz ti to i1 i2 ta tb m := by
  refine ⟨k _ _ (hS _ (.inr (.inl rfl))) z.pair, z.it1.at fun o q => k _ o (hS _ (.inr (.inr (.inr (.inl rfl))))) q, z.it2.at fun o q => k _ o (hS _ (.inr (.inr (.inr (.inr rfl))))) q, ?_⟩
  rcases z.out with ⟨q, a, b, p⟩ | ⟨tt, fl, o, q, e, n⟩
  · exact .inl ⟨k _ _ (hS _ (.inl rfl)) q, a, b, k _ _ (hS _ (.inr (.inr (.inl rfl)))) p⟩
  · obtain ⟨o', e'⟩ := ha _ _ e
    exact .inr ⟨tt, fl, o', k _ _ (hS _ (.inl rfl)) q, e', n⟩
/-- one more pair -/
theorem zt_item {zz ti to i1 i2 ta tb : Addr} {m : Nat} {us vs : Array Value} {u v : Value} {Q : Option Value → Shared → Prop} (D : ZipApart zz ti to i1 i2 ta tb) (z : ZtAt s.heap zz ti to i1 i2 ta tb m)
    (lt : ∀ c, c = zz ∨ c = to ∨ c = i1 ∨ c = i2 → c < s.heap.objs.size) (k1 : s.heap.IsTuple ta us) (k2 : s.heap.IsTuple tb vs) (hu : us[m]? = some u) (hv : vs[m]? = some v)
    (next : ∀ g, ZtAt g zz ti to i1 i2 ta tb (m + 1) → IsPair g s.heap.objs.size u v → g.objs.size = s.heap.objs.size + 1 →
      (∀ c o, c ≠ zz → c ≠ to → c ≠ i1 → c ≠ i2 → s.heap.get? c = some o → g.get? c = some o) → Q (some (.ref s.heap.objs.size)) { s with heap := g }) :
    wpAny (model prog w) A (pyNext (.ref zz)) Q E s := by
  have nn : ∀ c, c = zz ∨ c = to ∨ c = i1 ∨ c = i2 → s.heap.objs.size ≠ c := fun c q => Nat.ne_of_gt (lt c q)
  rcases z.out with ⟨hz, a, b, ho⟩ | ⟨tt, fl, o, hz, e, n1, n2, n3, n4⟩
  · exact RZ.pyNext_zipT_item D hz z.pair ho z.it1 z.it2 k1 k2 hu hv fun g c1 c2 c3 c4 c5 c6 c7 =>
      next g ⟨c7 _ _ D.TIz D.TITO D.TIi1 D.TIi2 z.pair, c3, c4, .inr ⟨_, false, _, c1, c5, nn _ (.inl rfl), nn _ (.inr (.inl rfl)), nn _ (.inr (.inr (.inl rfl))), nn _ (.inr (.inr (.inr rfl)))⟩⟩ c5 c6 c7
  · have hT : s.TypeIs (.ref zz) "zip" := ⟨_, hz, rfl⟩
    unfold pyNext
    refine wpAny_bind (wpAny_attempt (wpAny_callSpecial?_slot (name := Str.ofString "__next__") hT F.slot_zip_next (wpAny_call_entry F.slot_zip_next hT F.entry_zip_next ?_ (F.args_zip_next_1 _))))
    refine zt_held_item D hz e z.pair z.it1 z.it2 k1 k2 hu hv fun g c1 c2 c3 c4 c5 c6 => wpAny_pure ?_
    exact next g ⟨c6 _ _ D.TIz D.TIi1 D.TIi2 z.pair, c2, c3, .inr ⟨tt, true, o, c1, c6 _ _ n1 n3 n4 e, n1, n2, n3, n4⟩⟩ c4 c5 fun c o m1 _ m2 m3 q => c6 c o m1 m2 m3 q
theorem zt_end {zz ti to i1 i2 ta tb : Addr} {m : Nat} {us vs : Array Value} {Q : Option Value → Shared → Prop} (hh : A.handled = none) (D : ZipApart zz ti to i1 i2 ta tb) (z : ZtAt s.heap zz ti to i1 i2 ta tb m)
    (k1 : s.heap.IsTuple ta us) (k2 : s.heap.IsTuple tb vs) (fin : us[m]? = none ∨ vs[m]? = none)
    (next : ∀ g, (∀ c o, c ≠ zz → c ≠ to → c ≠ i1 → c ≠ i2 → s.heap.get? c = some o → g.get? c = some o) → Q none { s with heap := g }) : wpAny (model prog w) A (pyNext (.ref zz)) Q E s := by
  rcases z.out with ⟨hz, a, b, ho⟩ | ⟨tt, fl, o, hz, e, n1, n2, n3, n4⟩
  · exact RZ.pyNext_zipT_end hh D hz z.pair ho z.it1 z.it2 k1 k2 fin next
  · have hT : s.TypeIs (.ref zz) "zip" := ⟨_, hz, rfl⟩
    unfold pyNext
    refine wpAny_bind (wpAny_attempt (wpAny_callSpecial?_slot (name := Str.ofString "__next__") hT F.slot_zip_next (wpAny_call_entry F.slot_zip_next hT F.entry_zip_next ?_ (F.args_zip_next_1 _))))
    refine zt_held_end hh D hz e z.pair z.it1 z.it2 k1 k2 fin fun g er kp he => ?_
    obtain ⟨oe, h1, h2⟩ := he
    refine wpAny_bind (wpAny_isInstance (T := "StopIteration") (b := true) ⟨oe, h1, h2⟩ isSubtype_stop ?_)
    exact wpAny_pure (next _ fun c o m1 _ m2 m3 q => kp c o m1 m2 m3 q)
end
end Toy

set_option Elab.async false
set_option linter.all false
set_option maxRecDepth 100000
set_option maxHeartbeats 4000000
/-! Part Y: list(zip(t, u)), the loop and the rule. -/
namespace Toy
open PySem PySem.Spec PyProof.Rows L2
/-- the addresses bs hold the first pairs, all above S -/
structure ZtG (us vs : Array Value) (S : Addr) (h : Heap) (bs : List Addr) : Prop where
  rise : bs.Pairwise (· < ·)
  above : ∀ c ∈ bs, S < c
  pairs : ∀ (j : Nat) (c : Addr), bs[j]? = some c → ∃ u v, us[j]? = some u ∧ vs[j]? = some v ∧ IsPair h c u v
theorem ZtG.lt {us vs : Array Value} {S : Addr} {h : Heap} {bs : List Addr} (z : ZtG us vs S h bs) {c : Addr} (hc : c ∈ bs) : c < h.objs.size := by
  obtain ⟨j, hj⟩ := List.mem_iff_getElem?.mp hc
  obtain ⟨_, _, _, _, e⟩ := z.pairs j c hj
  exact Heap.lt_size e
section
variable {prog : Program} {w : World} {A : Around} {s : Shared} {R : Result → Shared → Prop} {us vs : Array Value} {zz ti to i1 i2 ta tb S : Addr} {n : Nat}
theorem zt_loop (hh : A.handled = none) (D : ZipApart zz ti to i1 i2 ta tb) (low : ∀ c, c = zz ∨ c = ti ∨ c = to ∨ c = i1 ∨ c = i2 ∨ c = ta ∨ c = tb → c < S) (en : us.size = n) (en2 : vs.size = n) (hn : n ≤ sizeLine) (res : Value) {h0 : Heap}
    (hR : ∀ g tk acc c bs, (∀ b o, b ≠ S → b ≠ zz → b ≠ to → b ≠ i1 → b ≠ i2 → h0.get? b = some o → g.get? b = some o) → g.get? S = some { cls := .type "list", dict := none, data := .seq acc c, slots := #[] } → bs.length = n → ZtG us vs S g bs →
      acc.toList = bs.map Value.ref → R (.ok (.ret res)) { s with heap := g, toks := tk }) :
    ∀ (k i : Nat) (h : Heap) (tk c : Nat) (acc : Array Value) (bs : List Addr), n - i = k → i ≤ n → ZtAt h zz ti to i1 i2 ta tb i → h.IsTuple ta us → h.IsTuple tb vs →
      (∀ b o, b ≠ S → b ≠ zz → b ≠ to → b ≠ i1 → b ≠ i2 → h0.get? b = some o → h.get? b = some o) →
      h.get? S = some { cls := .type "list", dict := none, data := .seq acc c, slots := #[] } → acc.toList = bs.map Value.ref → bs.length = i → ZtG us vs S h bs →
      codeAny (model prog w) A (.builtin "list.extend.loop" ⟨[.ref S, .ref zz, res], []⟩) R { s with heap := h, toks := tk } := by
  have nS : ∀ c, c = zz ∨ c = ti ∨ c = to ∨ c = i1 ∨ c = i2 ∨ c = ta ∨ c = tb → c ≠ S := fun c q => Nat.ne_of_lt (low c q)
  have nzz := nS zz (.inl rfl)
  have nti := nS ti (.inr (.inl rfl))
  have nto := nS to (.inr (.inr (.inl rfl)))
  have n1 := nS i1 (.inr (.inr (.inr (.inl rfl))))
  have n2 := nS i2 (.inr (.inr (.inr (.inr (.inl rfl)))))
  have nta := nS ta (.inr (.inr (.inr (.inr (.inr (.inl rfl))))))
  have ntb := nS tb (.inr (.inr (.inr (.inr (.inr (.inr rfl))))))
  have far : ∀ c, S < c → c ≠ zz ∧ c ≠ to ∧ c ≠ i1 ∧ c ≠ i2 := fun c hc =>
    ⟨Nat.ne_of_gt (Nat.lt_trans (low _ (.inl rfl)) hc), Nat.ne_of_gt (Nat.lt_trans (low _ (.inr (.inr (.inl rfl)))) hc), Nat.ne_of_gt (Nat.lt_trans (low _ (.inr (.inr (.inr (.inl rfl))))) hc), Nat.ne_of_gt (Nat.lt_trans (low _ (.inr (.inr (.inr (.inr (.inl rfl)))))) hc)⟩
  intro k
  induction k with
  | zero =>
    intro i h tk c acc bs hk hi hst ka kb hkeep hS hacc hbl hG
    have e : i = n := by omega
    refine codeAny_builtin PySem.F.entry_extend_loop ?_
    rw [Around.under_plainId PySem.F.plain_extend_loop _]
    show wpAny _ A.in1 (pyNext (.ref zz) >>= _) _ _ _
    refine wpAny_bind (zt_end (s := { s with heap := h, toks := tk }) (A := A.in1) hh D hst ka kb (.inl (by rw [Array.getElem?_eq_none]; omega)) fun g kp => ?_)
    refine wpAny_pure (hR g tk acc c bs (fun b o m1 m2 m3 m4 m5 q => kp b o m2 m3 m4 m5 (hkeep b o m1 m2 m3 m4 m5 q)) (kp S _ nzz.symm nto.symm n1.symm n2.symm hS) (by omega) ⟨hG.rise, hG.above, fun j c hj => ?_⟩ hacc)
    obtain ⟨u, v, e1, e2, e3⟩ := hG.pairs j c hj
    obtain ⟨f1, f2, f3, f4⟩ := far c (hG.above c (List.mem_of_getElem? hj))
    exact ⟨u, v, e1, e2, kp c _ f1 f2 f3 f4 e3⟩
  | succ k ih =>
    intro i h tk c acc bs hk hi hst ka kb hkeep hS hacc hbl hG
    have hlt : i < n := by omega
    have hsz : acc.size = i := by rw [← Array.length_toList, hacc, List.length_map, hbl]
    have hSl : S < h.objs.size := Heap.lt_size hS
    refine codeAny_builtin PySem.F.entry_extend_loop ?_
    rw [Around.under_plainId PySem.F.plain_extend_loop _]
    show wpAny _ A.in1 (pyNext (.ref zz) >>= _) _ _ _
    have hu : us[i]? = some us[i] := Array.getElem?_eq_getElem (by omega)
    have hv : vs[i]? = some vs[i] := Array.getElem?_eq_getElem (by omega)
    refine wpAny_bind (zt_item (s := { s with heap := h, toks := tk }) (A := A.in1) D hst (fun c q => Nat.lt_trans (low c (by rcases q with q | q | q | q <;> simp [q])) hSl) ka kb hu hv fun g zg new gsz kp => ?_)
    dsimp only at new gsz kp ⊢
    have gS := kp S _ nzz.symm nto.symm n1.symm n2.symm hS
    have up : ∀ b o, b ≠ S → g.get? b = some o → (g.update S (Obj.mapSeq (·.push (Value.ref h.objs.size)))).get? b = some o := fun b o hb q => (Heap.get?_update_other _ _ (Ne.symm hb)).trans q
    have dif : ∀ c, c < S ∨ S < c → c ≠ S := fun c q => by rcases q with q | q; exact Nat.ne_of_lt q; exact Nat.ne_of_gt q
    show wpAny _ A.in1 (updateSeq S (·.push (Value.ref h.objs.size)) >>= _) _ _ _
    refine wpAny_bind ?_
    refine wpAny_updateSeq gS rfl (wpAny_pure ⟨plainId_quiet PySem.F.plain_extend_loop _, ih (i + 1) _ tk _ (acc.push (Value.ref h.objs.size)) (bs ++ [h.objs.size]) (by omega) hlt ?_ (ka.at fun o q => up ta o nta (kp ta o D.l1z D.l1TO D.l1i1 D.l1i2 q)) (kb.at fun o q => up tb o ntb (kp tb o D.l2z D.l2TO D.l2i1 D.l2i2 q))
      (fun b o m1 m2 m3 m4 m5 q => up b o m1 (kp b o m2 m3 m4 m5 (hkeep b o m1 m2 m3 m4 m5 q))) (Heap.get?_update_self _ gS rfl) (by rw [Array.toList_push, hacc, List.map_append]; rfl) (by rw [List.length_append, hbl]; rfl) ⟨?_, ?_, ?_⟩⟩) (by rw [hsz]; omega) (by show (acc.push _).size ≤ _; rw [Array.size_push, hsz]; omega)
    · refine ZtAt.keep (S := S) zg (fun c q => nS c (by rcases q with q | q | q | q | q <;> simp [q])) (fun o q => by rw [gS] at q; cases q; rfl) (fun tt o q => ?_) up
      by_cases e : tt = S
      · rw [e]; exact ⟨_, Heap.get?_update_self _ gS rfl⟩
      · exact ⟨o, up tt o e q⟩
    · refine List.pairwise_append.mpr ⟨hG.rise, List.pairwise_singleton _ _, fun a ha b hb => ?_⟩
      rw [List.mem_singleton.mp hb]
      exact hG.lt ha
    · intro a ha
      rcases List.mem_append.mp ha with q | q
      · exact hG.above a q
      · rw [List.mem_singleton.mp q]; exact hSl
    · intro j b hj
      rcases Nat.lt_trichotomy j bs.length with q | q | q
      · rw [List.getElem?_append_left q] at hj
        obtain ⟨u, v, e1, e2, e3⟩ := hG.pairs j b hj
        have hb := hG.above b (List.mem_of_getElem? hj)
        obtain ⟨f1, f2, f3, f4⟩ := far b hb
        exact ⟨u, v, e1, e2, up b _ (Nat.ne_of_gt hb) (kp b _ f1 f2 f3 f4 e3)⟩
      · subst q
        have e : h.objs.size = b := by simpa using hj
        subst e
        subst hbl
        exact ⟨_, _, hu, hv, up _ _ (Nat.ne_of_gt hSl) new⟩
      · have none : (bs ++ [h.objs.size])[j]? = none := List.getElem?_eq_none (by rw [List.length_append, List.length_singleton]; omega)
        rw [none] at hj; cases hj
theorem zt_extend (hh : A.handled = none) (D : ZipApart zz ti to i1 i2 ta tb) (low : ∀ c, c = zz ∨ c = ti ∨ c = to ∨ c = i1 ∨ c = i2 ∨ c = ta ∨ c = tb → c < S) (en : us.size = n) (en2 : vs.size = n) (hn : n ≤ sizeLine) (res : Value) (c0 : Nat)
    (hst : ZtAt s.heap zz ti to i1 i2 ta tb 0) (hz0 : IsZip s.heap zz ti to .none) (ka : s.heap.IsTuple ta us) (kb : s.heap.IsTuple tb vs) (hS : s.heap.get? S = some { cls := .type "list", data := .seq #[] c0 })
    (hR : ∀ g tk acc c bs, (∀ b o, b ≠ S → b ≠ zz → b ≠ to → b ≠ i1 → b ≠ i2 → s.heap.get? b = some o → g.get? b = some o) → g.get? S = some { cls := .type "list", dict := none, data := .seq acc c, slots := #[] } → bs.length = n → ZtG us vs S g bs →
      acc.toList = bs.map Value.ref → R (.ok (.ret res)) { s with heap := g, toks := tk }) :
    wpAny (model prog w) A.in1 (Builtin.List.listExtendWith (.ref S) (.ref zz) res)
      (fun fin s' => match fin with | .done f => R (.ok f) s' | .again c' => c'.quiet = true ∧ codeAny (model prog w) A c' R s') (fun e s' => R (.error e) s') s := by
  have hT : s.TypeIs (.ref zz) "zip" := hst.type
  have hne : S ≠ zz := Ne.symm (Nat.ne_of_lt (low zz (.inl rfl)))
  unfold Builtin.List.listExtendWith
  refine wpAny_bind (wpAny_typeOf hT ?_)
  have q1 : Builtin.List.listSameRef (.ref S) (.ref zz) = false := by simp [Builtin.List.listSameRef, hne]
  have q2 : (Value.type "zip" == Value.type "list") = false := by decide
  have q3 : (Value.type "zip" == Value.type "tuple") = false := by decide
  simp only [q1, q2, q3, Bool.or_false, Bool.false_eq_true, if_false]
  refine wpAny_bind (wpAny_pyIter_zip hz0 ?_)
  refine wpAny_bind (wpAny_holding ?_)
  unfold Builtin.List.listLengthHint
  refine wpAny_bind (wpAny_specialOf hT zip_lenless ?_)
  show wpAny _ A.in1 (specialOf (Value.ref zz) (Str.ofString "__length_hint__") >>= _) _ _ _
  refine wpAny_bind (wpAny_specialOf hT zip_hintless ?_)
  refine wpAny_pure ?_
  show wpAny _ A.in1 (rule "list.extend.makes-room" >>= fun _ => Builtin.List.listTouch (.ref S) >>= fun _ => again (.builtin "list.extend.loop" ⟨[.ref S, .ref zz, res], []⟩)) _ _ _
  refine wpAny_bind (wpAny_rule ?_)
  refine wpAny_bind ?_
  show wpAny _ A.in1 (updateSeq S (·.push .none) >>= fun _ => updateSeq S (·.pop)) _ _ _
  refine wpAny_bind (wpAny_updateSeq hS rfl ?_)
  have hS2 := Heap.get?_update_self (Obj.mapSeq (·.push Value.none)) hS rfl
  refine wpAny_updateSeq (hz := by seq_fits) hS2 rfl ?_
  have hS3 := Heap.get?_update_self (Obj.mapSeq (·.pop)) hS2 rfl
  have off : ∀ b o, b ≠ S → s.heap.get? b = some o → ((s.heap.update S (Obj.mapSeq (·.push Value.none))).update S (Obj.mapSeq (·.pop))).get? b = some o :=
    fun b o hb q => (Heap.get?_update_other _ _ (Ne.symm hb)).trans ((Heap.get?_update_other _ _ (Ne.symm hb)).trans q)
  refine wpAny_pure ⟨plainId_quiet PySem.F.plain_extend_loop _, zt_loop (s := s) (h0 := s.heap) hh D low en en2 hn res hR n 0 _ _ _ #[] [] (Nat.sub_zero _) (Nat.zero_le _) ?_ (ka.at fun o q => off ta o (Nat.ne_of_lt (low ta (by simp))) q) (kb.at fun o q => off tb o (Nat.ne_of_lt (low tb (by simp))) q)
    (fun b o m1 _ _ _ _ q => off b o m1 q) hS3 rfl rfl ⟨List.Pairwise.nil, (fun _ q => nomatch q), (fun j a hj => by simp at hj)⟩⟩
  refine ZtAt.keep (S := S) hst (fun c q => Nat.ne_of_lt (low c (by rcases q with q | q | q | q | q <;> simp [q]))) (fun o q => by rw [hS] at q; cases q; rfl) (fun tt o q => ?_) off
  by_cases e : tt = S
  · rw [e]; exact ⟨_, hS3⟩
  · exact ⟨o, off tt o e q⟩
end
section
variable {prog : Program} {w : World} {A : Around} {E : Value → Shared → Prop} {s : Shared} {us vs : Array Value} {zz ti to i1 i2 ta tb : Addr} {n : Nat} {R : Result → Shared → Prop}
theorem zt_call {Q : Value → Shared → Prop} (hh : A.handled = none) (D : ZipApart zz ti to i1 i2 ta tb) (low : ∀ c, c = zz ∨ c = ti ∨ c = to ∨ c = i1 ∨ c = i2 ∨ c = ta ∨ c = tb → c < s.heap.objs.size) (en : us.size = n) (en2 : vs.size = n) (hn : n ≤ sizeLine)
    (hp : IsPair s.heap ti (.ref i1) (.ref i2)) (j1 : s.heap.IsTupleIter i1 ta 0) (j2 : s.heap.IsTupleIter i2 tb 0) (hz0 : IsZip s.heap zz ti to .none) {a b : Value} (ho : IsPair s.heap to a b) (ka : s.heap.IsTuple ta us) (kb : s.heap.IsTuple tb vs)
    (hQ : ∀ g tk acc c bs, (∀ b o, b ≠ zz → b ≠ to → b ≠ i1 → b ≠ i2 → s.heap.get? b = some o → g.get? b = some o) → g.get? s.heap.objs.size = some { cls := .type "list", dict := none, data := .seq acc c, slots := #[] } → bs.length = n → ZtG us vs s.heap.objs.size g bs →
      acc.toList = bs.map Value.ref → Q (.ref s.heap.objs.size) { s with heap := g, toks := tk }) :
    wpAny (model prog w) A (call (.type "list") [.ref zz]) Q E s := by
  refine callType_codes (Q₁ := fun obj s₁ => obj = .ref s.heap.objs.size ∧ s₁ = { s with heap := s.heap.push { cls := .type "list", data := .seq #[] } }) PySem.F.called_list (PySem.F.typeCall_list_1 _) PySem.F.entry_list_init (code_list_new _ ⟨rfl, rfl⟩) fun obj s1 q => ?_
  obtain ⟨rfl, rfl⟩ := q
  have up : ∀ c o, s.heap.get? c = some o → (s.heap.push { cls := .type "list", data := .seq #[] }).get? c = some o := fun c o q => Heap.get?_push_of_some _ q
  have hS : (s.heap.push { cls := .type "list", data := .seq #[] }).get? s.heap.objs.size = some { cls := .type "list", data := .seq #[] } := Heap.get?_push_size _ rfl
  refine ⟨⟨_, hS, rfl⟩, PySem.F.args_list_init_2 _ _, ?_⟩
  show wpAny _ _ (do let old ← Builtin.List.listItems (.ref s.heap.objs.size); Builtin.List.listUpdate (.ref s.heap.objs.size) (fun _ => #[]); letGo old.toList.reverse; Builtin.List.listExtendWith (.ref s.heap.objs.size) (.ref zz) .none) _ _ _
  refine wpAny_bind ?_
  unfold Builtin.List.listItems
  refine wpAny_bind (wpAny_seqItems hS rfl (wpAny_pure ?_))
  show wpAny _ _ (updateSeq s.heap.objs.size (fun _ => #[]) >>= fun _ => letGo (#[] : Array Value).toList.reverse >>= fun _ => Builtin.List.listExtendWith (.ref s.heap.objs.size) (.ref zz) .none) _ _ _
  refine wpAny_bind (wpAny_updateSeq hS rfl ?_)
  have hS2 := Heap.get?_update_self (Obj.mapSeq (fun _ => (#[] : Array Value))) hS rfl
  have off : ∀ b o, b ≠ s.heap.objs.size → s.heap.get? b = some o → ((s.heap.push { cls := .type "list", data := .seq #[] }).update s.heap.objs.size (Obj.mapSeq (fun _ => (#[] : Array Value)))).get? b = some o :=
    fun b o hb q => (Heap.get?_update_other _ _ (Ne.symm hb)).trans (up b o q)
  have off2 : ∀ b o, s.heap.get? b = some o → ((s.heap.push { cls := .type "list", data := .seq #[] }).update s.heap.objs.size (Obj.mapSeq (fun _ => (#[] : Array Value)))).get? b = some o := fun b o q => off b o (Nat.ne_of_lt (Heap.lt_size q)) q
  refine wpAny_bind (wpAny_letGo ?_)
  refine zt_extend (A := A.in1) hh D low en en2 hn .none _ ⟨off2 _ _ hp, j1.at fun o q => off2 _ o q, j2.at fun o q => off2 _ o q, .inl ⟨off2 _ _ hz0, a, b, off2 _ _ ho⟩⟩ (off2 _ _ hz0) (ka.at fun o q => off2 _ o q) (kb.at fun o q => off2 _ o q) hS2 fun g tk acc c bs kp gS hl hG hacc => ?_
  exact ⟨rfl, hQ g tk acc c bs (fun b o m2 m3 m4 m5 q => kp b o (Nat.ne_of_lt (Heap.lt_size q)) m2 m3 m4 m5 (off2 b o q)) gS hl hG hacc⟩
end
/-- pairs tracked at their addresses -/
def putP : Hp → List Addr → List (V × V) → Hp
  | H, a :: as, p :: ps => putP (upd H a (.tup [p.1, p.2])) as ps
  | H, _, _ => H
theorem putP_off {b : Addr} : ∀ (as : List Addr) (ps : List (V × V)) (H : Hp), b ∉ as → putP H as ps b = H b
  | [], _, _, _ => rfl
  | _ :: _, [], _, _ => rfl
  | a :: as, p :: ps, H, h => (putP_off as ps _ fun z => h (List.mem_cons_of_mem _ z)).trans (upd_ne fun z => h (z ▸ List.mem_cons_self))
theorem putP_at : ∀ (as : List Addr) (ps : List (V × V)) (H : Hp), as.Nodup → ∀ (j : Nat) (a : Addr) (p : V × V), as[j]? = some a → ps[j]? = some p → putP H as ps a = some (.tup [p.1, p.2])
  | [], _, _, _, _, _, _, h, _ => by simp at h
  | _ :: _, [], _, _, _, _, _, _, h => by simp at h
  | a :: as, p :: ps, H, hn, 0, a', p', h1, h2 => by
    have e1 : a = a' := Option.some.inj h1
    have e2 : p = p' := Option.some.inj h2
    subst e1 e2
    exact (putP_off as ps _ (List.nodup_cons.mp hn).1).trans upd_same
  | a :: as, p :: ps, H, hn, j + 1, a', p', h1, h2 => putP_at as ps _ (List.nodup_cons.mp hn).2 j a' p' h1 h2
/-- list(zip(t, u)): a new list of new pairs -/
def tListZip (K : PySem.W.Frag) (ta : TA) : TE := fun σ H Q => ta σ H fun vs H1 => ∃ a b xs ys, vs = [.ref a, .ref b] ∧ SqT K H1 a xs ∧ SqT K H1 b ys ∧ xs.length = ys.length ∧
  ∀ (H' : Hp) (p : Addr) (bs : List Addr), Same H1 H' → H1 p = none → (∀ t ∈ bs, H1 t = none) → H' p = some (.lst (bs.map V.ref)) → bs.length = xs.length → (∀ (j : Nat) (t : Addr), bs[j]? = some t → ∃ x y, xs[j]? = some x ∧ ys[j]? = some y ∧ H' t = some (.tup [x, y])) → Q (.ref p) H'
section
variable {X : Cx} {e e2 : Expr} {ta : TA} {p p2 pos pos2 : Pos}
theorem pe_listZip (hc : X.calm = true) (hg : Gl X "list") (hm : X.mg "list" = none) (hv : bootBuiltins "list" = some (.type "list")) (hg2 : Gl X "zip") (hm2 : X.mg "zip" = none) (ha : PA X [e, e2] ta)
    (hs : starEach [.Call (.Name "zip" p2) [e, e2] [] pos2] X.env = (false, eval (.Call (.Name "zip" p2) [e, e2] [] pos2) X.env) :: starEach [] X.env := by rfl)
    (hs2 : starEach [e, e2] X.env = (false, eval e X.env) :: starEach [e2] X.env := by rfl) (hpl : (backTo pos2 (starEach [e2] X.env)).any (·.1) = false := by rfl) :
    PE X (.Call (.Name "list" p) [.Call (.Name "zip" p2) [e, e2] [] pos2] [] pos) (tListZip X.K ta) := by
  refine ⟨fun pins s σ H Q I hq => ?_⟩
  refine wpAny_Call_Name_kw (ld_blt I hg hm hv ?_)
  refine PyProof.Rows.callWith_type1 ?_ hs rfl
  rw [hs]
  show wpAny _ _ (spliced ((false, eval (.Call (.Name "zip" p2) [e, e2] [] pos2) X.env) :: backTo pos (starEach [] X.env))) _ _ s
  refine Calls.spliced_cons ?_
  refine Call_ (ld_blt I hg2 hm2 PyProof.Rows.boot_zip (PyProof.Rows.callWith_type1 (thn (ha.run pos2 pins s σ H _ I hq) fun vals s1 ⟨vs, H1, I1, r1, q1⟩ => ?_) hs2 hpl))
  obtain ⟨a, b, xs, ys, ex, hx, hy, hl, q⟩ := q1
  subst ex
  obtain ⟨its, rv, t1, z1⟩ := I1.tuple hx
  obtain ⟨its2, rv2, t2, z2⟩ := I1.tuple hy
  have l1 := rv.length
  have l2 := rv2.length
  obtain ⟨o1, ho1, _⟩ := id t1
  obtain ⟨o2, ho2, _⟩ := id t2
  cases r1 with
  | cons r rr =>
    cases rr with
    | cons r' rr =>
      cases rr
      cases r
      cases r'
      refine RZ.call_zipT (show s1.heap.IsTuple a its.toArray from t1) (show s1.heap.IsTuple b its2.toArray from t2) fun g hz hTI hTO h1 h2 gsz hk => ?_
      refine Calls.spliced_nil ?_
      have I2 : Inv X pins σ H1 { s1 with heap := g } := I1.kept (t' := s1.toks) hk
      have la := Heap.lt_size ho1
      have lb := Heap.lt_size ho2
      refine zt_call (s := { s1 with heap := g }) (us := its.toArray) (vs := its2.toArray) (n := xs.length) (I1.ok.hd hc) (PySem.W.ktu_apart s1.heap.objs.size a b la lb) ?_ (by rw [List.size_toArray]; exact l1.symm) (by rw [List.size_toArray, hl]; exact l2.symm) z1 hTI h1 h2 hz hTO ((show s1.heap.IsTuple a its.toArray from t1).at fun o e => hk _ o e) ((show s1.heap.IsTuple b its2.toArray from t2).at fun o e => hk _ o e) fun g2 tk acc c bs kp gS hbl hG hacc => ?_
      · show ∀ c, _ → c < g.objs.size
        rw [gsz]
        intro c q
        have la' : (a : Nat) < s1.heap.objs.size := la
        have lb' : (b : Nat) < s1.heap.objs.size := lb
        rcases q with q | q | q | q | q | q | q <;> (rw [q]; first | exact Nat.lt_of_lt_of_le la' (Nat.le_add_right _ _) | exact Nat.lt_of_lt_of_le lb' (Nat.le_add_right _ _) | exact Nat.lt_add_of_pos_right (by decide) | exact Nat.add_lt_add_left (by decide) _)
      · have hkp : ∀ b o, s1.heap.get? b = some o → g2.get? b = some o := fun b o e => by
          have lt := Heap.lt_size e
          have ne : ∀ k : Nat, b ≠ s1.heap.objs.size + k := fun k => Nat.ne_of_lt (Nat.lt_of_lt_of_le lt (Nat.le_add_right _ _))
          exact kp b o (ne 4) (ne 3) (ne 0) (ne 1) (hk b o e)
        have lowS : s1.heap.objs.size ≤ g.objs.size := by rw [gsz]; exact Nat.le_add_right _ _
        have nd : bs.Nodup := List.Pairwise.imp (fun {a b} (h : a < b) => Nat.ne_of_lt h) hG.rise
        have new : ∀ t ∈ bs, H1 t = none := fun t ht => I1.hok.fresh (Nat.le_trans lowS (Nat.le_of_lt (hG.above t ht)))
        have newS : H1 g.objs.size = none := I1.hok.fresh lowS
        have hSn : g.objs.size ∉ bs := fun z => Nat.lt_irrefl _ (hG.above _ z)
        have off : ∀ b, b ∉ bs → b ≠ g.objs.size → putP (upd H1 g.objs.size (.lst (bs.map V.ref))) bs (xs.zip ys) b = H1 b := fun b m1 m2 => (putP_off bs _ _ m1).trans (upd_ne m2)
        have kpH : ∀ b u, H1 b = some u → putP (upd H1 g.objs.size (.lst (bs.map V.ref))) bs (xs.zip ys) b = some u := fun b u e => by
          rw [off b (fun z => by rw [new b z] at e; cases e) (fun z => by rw [z, newS] at e; cases e)]
          exact e
        have eS : putP (upd H1 g.objs.size (.lst (bs.map V.ref))) bs (xs.zip ys) g.objs.size = some (.lst (bs.map V.ref)) := by rw [putP_off bs _ _ hSn, upd_same]
        have atj : ∀ (j : Nat) (t : Addr), bs[j]? = some t → ∃ x y, xs[j]? = some x ∧ ys[j]? = some y ∧ putP (upd H1 g.objs.size (.lst (bs.map V.ref))) bs (xs.zip ys) t = some (.tup [x, y]) := fun j t hj => by
          have jl : j < xs.length := by
            have := (List.getElem?_eq_some_iff.mp hj).1
            omega
          have jl2 : j < ys.length := by omega
          refine ⟨xs[j], ys[j], List.getElem?_eq_getElem jl, List.getElem?_eq_getElem jl2, ?_⟩
          exact putP_at bs (xs.zip ys) _ nd j t (xs[j], ys[j]) hj ((List.getElem?_zip_eq_some (z := (xs[j], ys[j]))).mpr ⟨List.getElem?_eq_getElem jl, List.getElem?_eq_getElem jl2⟩)
        refine ⟨.ref g.objs.size, _, ?_, rfl, q _ g.objs.size bs kpH newS new eS hbl atj⟩
        show Inv X pins σ (putP (upd H1 g.objs.size (.lst (bs.map V.ref))) bs (xs.zip ys)) { s1 with heap := g2, toks := tk }
        refine I1.call' (ch := []) rfl ⟨fun b o q _ _ _ => hkp b o q, fun b o q _ _ _ => ⟨o.slots, hkp b o q⟩, fun b o q n _ => ?_, fun b o q _ => ⟨o, hkp b o q⟩, fun b xs q => kpH b _ q, fun b o u q => kpH b _ q, fun b ps q => ⟨#[], by rw [kpH b _ q]; simp⟩⟩ (fun b u q => ?_) I1.bare fun b z => by simp at z
        · have lt := Heap.lt_size q
          rw [off b (fun z => absurd lt (Nat.not_lt.mpr (Nat.le_trans lowS (Nat.le_of_lt (hG.above b z))))) (Nat.ne_of_lt (Nat.lt_of_lt_of_le lt lowS))]
          exact n
        · by_cases hb : b ∈ bs
          · obtain ⟨j, hj⟩ := List.mem_iff_getElem?.mp hb
            obtain ⟨x, y, e1, e2, e3⟩ := atj j b hj
            obtain ⟨u1, v1, f1, f2, f3⟩ := hG.pairs j b hj
            rw [e3] at q
            cases q
            obtain ⟨u2, g1, ru⟩ := rv.get e1
            obtain ⟨v2, g2', rv'⟩ := rv2.get e2
            have a1 : u1 = u2 := by
              rw [List.getElem?_toArray, g1] at f1
              exact (Option.some.inj f1).symm
            have a2 : v1 = v2 := by
              rw [List.getElem?_toArray, g2'] at f2
              exact (Option.some.inj f2).symm
            rw [a1, a2] at f3
            exact ⟨by show 2 ≤ sizeLine; decide, [u2, v2], .cons ru (.cons rv' .nil), ⟨_, f3, rfl, _, rfl⟩⟩
          · by_cases hb2 : b = g.objs.size
            · rw [hb2] at q ⊢
              rw [eS] at q
              cases q
              refine ⟨by rw [List.length_map]; omega, acc.toList, c, by rw [hacc]; exact LiI.vals_refs bs, ?_⟩
              rw [Array.toArray_toList]
              exact gS
            · rw [off b hb hb2] at q
              exact (I1.hok b u q).stay (fun d v _ y => hkp d v y) (fun d y => kpH d _ y) fun d xs y => kpH d _ y
end
end Toy

set_option Elab.async false
set_option linter.all false
set_option maxRecDepth 100000
set_option maxHeartbeats 4000000
/-! Part T: own rules: xs[j:] = ys; != of two dicts with the same values. -/
namespace Toy
open PySem PySem.Spec PyProof.Rows L2
section
variable {prog : Program} {w : World} {A : Around} {E : Value → Shared → Prop} {s : Shared}
theorem tail_bounds {j n : Nat} (hj : j ≤ n) : sliceBounds (some (j : Int)) none none n = ((j : Int), (n : Int), 1) := by
  simp only [sliceBounds, Option.getD_none]
  have q1 : ¬ ((j : Int) < 0) := by omega
  simp only [q1, if_false, show (1 : Int) > 0 by decide, if_true]
  first
    | rfl
    | (congr 1
       omega)
    | (congr 1
       · omega)
theorem setItem_tail {lst src sl : Addr} {old new : Array Value} {n1 n2 : Nat} {vj : Value} {j : Nat} {Q : Unit → Shared → Prop}
    (e1 : s.heap.get? lst = some { cls := .type "list", data := .seq old n1 }) (e2 : s.heap.get? src = some { cls := .type "list", data := .seq new n2 }) (dif : lst ≠ src)
    (hsl : s.heap.IsSliceOf sl vj .none .none) (pj : IsPart vj (some (j : Int))) (hj : j ≤ old.size)
    (hz : old.size + new.size ≤ sizeLine) (h : Q () { s with heap := s.heap.update lst (Obj.mapSeq fun xs => xs.extract 0 j ++ new ++ xs.extract old.size xs.size) }) :
    wpAny (model prog w) A (setItem (.ref lst) (.ref sl) (.ref src)) Q E s := by
  have h1 : s.heap.IsList lst old := PySem.IsL.isList e1
  have h2 : s.heap.IsList src new := PySem.IsL.isList e2
  obtain ⟨osl, hosl, hcsl, hdsl⟩ := id hsl
  have hTsl : s.TypeIs (.ref sl) "slice" := ⟨osl, hosl, hcsl⟩
  have nostep : ¬ ((rawPart none == rawInt 0) = true) := Bool.false_ne_true
  have nosame : Builtin.List.listSameRef (.ref lst) (.ref src) = false := by
    unfold Builtin.List.listSameRef
    exact beq_eq_false_iff_ne.mpr dif
  have hm : (max (j : Int) (old.size : Int)).toNat = old.size := by omega
  have hz2 : ((fun xs : Array Value => xs.extract 0 j ++ new ++ xs.extract old.size xs.size) old).size ≤ sizeLine + 1 := by
    simp only [Array.size_append, Array.size_extract]
    omega
  unfold setItem
  try with_reducible refine wpAny_holding ?_
  first | refine wpAny_bind (wpAny_pure ?_) | skip
  refine wpAny_bind (wpAny_sequenceKey h1.typeIs (by decide) ?_)
  refine wpAny_bind (wpAny_callSpecial?_slot (name := Str.ofString "__setitem__") h1.typeIs slot_list_setitem (wpAny_call_entry slot_list_setitem h1.typeIs entry_list_setitem ?_ (args_list_setitem _ _ _)))
  show wpAny _ _ (Builtin.List.listSubscript? (.ref sl) >>= _) _ _ s
  refine wpAny_bind ?_
  unfold Builtin.List.listSubscript?
  refine wpAny_bind (wpAny_specialOf hTsl slice_no_index ?_)
  simp only [Option.isNone_none, if_true]
  refine wpAny_pure ?_
  show wpAny _ _ (typeOf (.ref sl) >>= _) _ _ s
  refine wpAny_bind (wpAny_typeOf hTsl ?_)
  first
    | rw [if_neg (by decide)]
    | refine PySem.W.KFB.if_not (by decide) ?_
  rw [listSliceParts_eq]
  refine wpAny_bind (wpAny_bind (wpAny_field hosl hdsl (x := .none) rfl (wpAny_bind (wpAny_listPart .none ?_))))
  rw [if_neg nostep]
  refine wpAny_bind (wpAny_field hosl hdsl (x := vj) rfl (wpAny_bind (wpAny_listPart pj ?_)))
  refine wpAny_bind (wpAny_field hosl hdsl (x := .none) rfl (wpAny_bind (wpAny_listPart .none (wpAny_pure ?_))))
  first
    | simp only [nosame, Bool.false_eq_true, if_false]
    | refine PySem.W.KFB.if_not nosame ?_
    | (dsimp only
       rw [if_neg (by rw [nosame]; exact Bool.false_ne_true)])
  refine wpAny_bind (m := Builtin.List.listAllItems (.ref src) "must assign iterable to extended slice") ?_
  unfold Builtin.List.listAllItems
  refine wpAny_bind (wpAny_typeOf h2.typeIs ?_)
  first
    | refine PySem.W.KFB.if_so (by decide) ?_
    | rw [if_pos (by decide)]
    | simp only [beq_self_eq_true, Bool.true_or, if_true]
  unfold Builtin.List.listItems
  refine wpAny_bind (wpAny_seqItems e2 rfl (wpAny_pure ?_))
  refine wpAny_bind (wpAny_bind (wpAny_seqItems e1 rfl (wpAny_pure ?_)))
  refine wpAny_bind (wpAny_of_eq ((sliceIndices_raw (some (j : Int)) none none old.size (by simp)).trans (congrArg (pure : Int × Int × Int → Sem (Int × Int × Int)) (tail_bounds hj))) ?_)
  show wpAny _ _ (if ((1 : Int) == 1) = true then _ else _) _ _ s
  rw [if_pos (by decide)]
  refine wpAny_bind (wpAny_rule ?_)
  first
    | simp only [notLongL hz, Bool.false_eq_true, if_false]
    | refine PySem.W.KFB.if_not (notLongL hz) ?_
  first | refine wpAny_bind (wpAny_pure ?_) | skip
  show wpAny _ _ (updateSeq lst (fun xs => xs.extract 0 ((j : Int)).toNat ++ new ++ xs.extract (max (j : Int) (old.size : Int)).toNat xs.size) >>= _) _ _ s
  rw [hm, Int.toNat_natCast]
  refine wpAny_bind (wpAny_updateSeq (hz := Nat.le_trans (Nat.le_add_right _ _) hz) (_hz' := hz2) e1 rfl ?_)
  refine wpAny_bind (wpAny_letGo ?_)
  first
    | exact wpAny_bind (wpAny_pure (wpAny_pure ⟨.none, rfl, wpAny_pure h⟩))
    | exact wpAny_pure ⟨.none, rfl, wpAny_pure h⟩
end
section
variable {X : Cx}
def sTail (to ta tv : TE) : TS := fun D σ H => tv σ H fun v H1 => to σ H1 fun x H2 => ta σ H2 fun y H3 => ∃ (l b : Addr) (xs ys : List V) (j : Nat), x = .ref l ∧ v = .ref b ∧ y = .int (j : Int) ∧ H3 l = some (.lst xs) ∧ H3 b = some (.lst ys) ∧ l ≠ b ∧ j ≤ xs.length ∧ xs.length + ys.length ≤ sizeLine ∧ D.nx σ (upd H3 l (.lst (xs.take j ++ ys)))
theorem ps_tail {o a value : Expr} {to ta tv : TE} {p2 pos' pos : Pos} (ho : PE X o to) (ha : PE X a ta) (hv : PE X value tv) (hs : swapsWith value (some (.Subscript o (.Slice (some a) none none p2) pos')) pos.line X.env = pure false := by rfl) :
    PS X (.Assign [.Subscript o (.Slice (some a) none none p2) pos'] value pos) (sTail to ta tv) := by
  refine ⟨fun pins s σ H D I h => ?_⟩
  refine wpAny_Assign_Subscript (thn (hv.run pins s σ H _ I h) fun r s1 ⟨v, H1, I1, rv, q1⟩ => thn (ho.run pins s1 σ H1 _ I1 q1) fun u s2 ⟨x, H2, I2, rx, q2⟩ => ?_) hs
  refine wpAny_Slice ?_
  rw [evalPart_some]
  refine thn (ha.run pins s2 σ H2 _ I2 q2) fun iv s3 ⟨y, H3, I3, ry, l, b, xs, ys, j, ex, ev, ey, hl, hb, dif, hj, hz, q⟩ => ?_
  subst ex ev ey
  rw [evalPart_none]
  refine wpAny_pure ?_
  refine wpAny_pure ?_
  obtain ⟨tj, rfl⟩ := ry
  cases rx
  cases rv
  have I4 : Inv X pins σ H3 { s3 with heap := s3.heap.push { cls := .type "slice", data := .fields #[.int (j : Int) tj, .none, .none] } } := I3.kept (t' := s3.toks) fun b ob q => Heap.get?_push_of_some _ q
  obtain ⟨z, its, n, r, hll, e⟩ := I4.lstM hl
  obtain ⟨z2, its2, n2, r2, hll2, e2⟩ := I4.lstM hb
  refine setItem_tail (j := j) e e2 dif (Heap.IsSliceOf.new ..) (.int _ _) (by rw [List.size_toArray]; omega) (by rw [List.size_toArray, List.size_toArray]; omega) ?_
  refine ⟨_, _, I4.lset (its' := its.take j ++ its2) (t' := s3.toks) hl e ?_ (Vals.append (r.take _) r2) ?_, q⟩
  · show its.toArray.extract 0 j ++ its2.toArray ++ its.toArray.extract its.toArray.size its.toArray.size = (its.take j ++ its2).toArray
    rw [List.size_toArray]
    have z := splice_eq its its2 j its.length
    rw [List.size_toArray, List.drop_length, List.append_nil] at z
    exact z
  · rw [List.length_append, List.length_take]
    omega
/-- the same objects under the same keys -/
theorem hits_refs {A : Around} {s : Shared} {kvs : List (Key × V)} {vb : List (Key × Value)} (rb : KV kvs vb) : ∀ {ks : List (Key × V)} {va : List (Key × Value)}, KV ks va →
    (∀ p ∈ ks, ∃ c, p.2 = .ref c ∧ valV kvs p.1 = some (.ref c)) → PySem.W.KeqHits A s vb va true
  | [], _, ra, _ => by
    cases ra
    exact .nil
  | p :: ks, _, ra, hp => by
    cases ra with
    | @cons _ y _ ys h t =>
      obtain ⟨h1, h2⟩ := h
      obtain ⟨c, e1, e2⟩ := hp p (List.mem_cons_self ..)
      have rr : RelO (some (V.ref c)) (valueAt vb p.1) := e2 ▸ rb.val p.1
      obtain ⟨u, hu, ru⟩ := rr.some_of
      obtain ⟨k, v⟩ := y
      have ek : p.1 = k := h1
      rw [ek] at hu
      rw [e1] at h2
      have ev : v = Value.ref c := h2
      have eu : u = Value.ref c := ru
      subst ev eu
      show PySem.W.KeqHits A s vb ((k, Value.ref c) :: ys) (true && true)
      exact .hit hu (SeqAt.EqAt.same _) (hits_refs rb t fun p' hm => hp p' (List.mem_cons_of_mem _ hm))
def rNeDR : R2 := fun x y H Q => ∃ a b ks ls, x = .ref a ∧ y = .ref b ∧ H a = some (.dK ks) ∧ H b = some (.dK ls) ∧ ks.length = ls.length ∧ (∀ p ∈ ks, ∃ c, p.2 = .ref c ∧ valV ls p.1 = some (.ref c)) ∧ Q (.bl false) H
theorem op_ne_dictR (hu : X.A.units < cLine) : OpR X (compareOp .NotEq) rNeDR := by
  intro pins s σ H x y v u Q I rx ry h
  obtain ⟨a, b, ks, ls, rfl, rfl, ea, eb, hlen, hp, q⟩ := h
  cases rx
  cases ry
  obtain ⟨_, ya, va, ra, da⟩ := (show ObjOk X.prog X.w H s.heap a (.dK ks) from I.hok a _ ea)
  obtain ⟨_, yb, vb, rb, db⟩ := (show ObjOk X.prog X.w H s.heap b (.dK ls) from I.hok b _ eb)
  have hl : va.length = vb.length := ra.length.symm.trans (hlen.trans rb.length)
  refine PySem.W.keq_ne (knd := mixKind X.prog X.w) (r := true) ya yb da db hu (fun _ => hits_refs rb ra hp) ?_
  rw [hl, beq_self_eq_true]
  exact ⟨.bl false, H, I, rfl, q⟩
end
end Toy

set_option Elab.async false
set_option linter.all false
set_option maxRecDepth 100000
set_option maxHeartbeats 4000000
/-! Part B: types, in plain Lean, and how they stand in the heap. -/
namespace Toy
open PySem L2
inductive Kd
  | nm (s : Str)
  | mt (i : Int)
  | fn (a b : Kd)
  | cn (s : Str) (l : List Kd)
mutual
def Kd.D : Kd → PyData
  | .nm s => .tuple [.str "name", .str s]
  | .mt i => .tuple [.str "meta", .int i]
  | .fn a b => .tuple [.str "fun", a.D, b.D]
  | .cn s l => .tuple [.str "con", .str s, .tuple (Kd.Ds l)]
def Kd.Ds : List Kd → List PyData
  | [] => []
  | k :: l => k.D :: Kd.Ds l
end
/-- the types directly in a type -/
def Kd.parts : Kd → List Kd
  | .nm _ => []
  | .mt _ => []
  | .fn a b => [a, b]
  | .cn _ l => l
mutual
/-- a type stands in the heap as v, in tuples that are tracked -/
def Kd.At (H : Hp) : Kd → V → Prop
  | .nm s, v => ∃ a, v = .ref a ∧ H a = some (.tup [.str "name", .str s])
  | .mt i, v => ∃ a, v = .ref a ∧ H a = some (.tup [.str "meta", .int i])
  | .fn p q, v => ∃ a x y, v = .ref a ∧ H a = some (.tup [.str "fun", x, y]) ∧ p.At H x ∧ q.At H y
  | .cn s l, v => ∃ a b xs, v = .ref a ∧ H a = some (.tup [.str "con", .str s, .ref b]) ∧ H b = some (.tup xs) ∧ Kd.Ats H l xs
def Kd.Ats (H : Hp) : List Kd → List V → Prop
  | [], xs => xs = []
  | k :: l, xs => ∃ x ys, xs = x :: ys ∧ k.At H x ∧ Kd.Ats H l ys
end
/-- a heap in which the tuples stand -/
def TK (H H' : Hp) : Prop := ∀ a xs, H a = some (.tup xs) → H' a = some (.tup xs)
theorem TK.refl (H : Hp) : TK H H := fun _ _ h => h
theorem TK.trans {H1 H2 H3 : Hp} (h : TK H1 H2) (k : TK H2 H3) : TK H1 H3 := fun a xs e => k a xs (h a xs e)
theorem tk_same {H H' : Hp} (s : Same H H') : TK H H' := fun _ _ e => s _ _ e
theorem tk_upd {H : Hp} {p : Addr} {o : HO} (n : ∀ xs, H p ≠ some (.tup xs)) : TK H (upd H p o) := fun a xs e => by
  rw [upd_ne (fun z => n xs (by rw [← z]; exact e))]
  exact e
theorem tk_list {H : Hp} {p : Addr} {ys : List V} {o : HO} (h : H p = some (.lst ys)) : TK H (upd H p o) := tk_upd fun xs e => by rw [h] at e; cases e
theorem tk_dict {H : Hp} {p : Addr} {kvs : List (Key × V)} {o : HO} (h : H p = some (.dK kvs)) : TK H (upd H p o) := tk_upd fun xs e => by rw [h] at e; cases e
theorem tk_dictT {H : Hp} {p : Addr} {kvs : List (List Key × V)} {o : HO} (h : H p = some (.dT kvs)) : TK H (upd H p o) := tk_upd fun xs e => by rw [h] at e; cases e
theorem tk_new {H : Hp} {p : Addr} {o : HO} (h : H p = none) : TK H (upd H p o) := tk_same (same_new h o)
theorem tk_keep {p : Addr} {H H' : Hp} (k : Keep p H H') (n : ∀ xs, H p ≠ some (.tup xs)) : TK H H' := fun a xs e => k a _ (fun z => n xs (z ▸ e)) e
theorem DrawsAt.notup {H : Hp} {p r : Addr} (d : DrawsAt H p r) : ∀ xs, H p ≠ some (.tup xs) := fun xs e => by
  obtain ⟨_, _, _, h, _⟩ := d
  rw [h] at e
  cases e
mutual
theorem Kd.At.keep {H H' : Hp} : ∀ {k : Kd} {v : V}, TK H H' → k.At H v → k.At H' v
  | .nm s, _, t, ⟨a, e, h⟩ => ⟨a, e, t _ _ h⟩
  | .mt i, _, t, ⟨a, e, h⟩ => ⟨a, e, t _ _ h⟩
  | .fn p q, _, t, ⟨a, x, y, e, h, h1, h2⟩ => ⟨a, x, y, e, t _ _ h, Kd.At.keep t h1, Kd.At.keep t h2⟩
  | .cn s l, _, t, ⟨a, b, xs, e, h, hb, hl⟩ => ⟨a, b, xs, e, t _ _ h, t _ _ hb, Kd.Ats.keep t hl⟩
theorem Kd.Ats.keep {H H' : Hp} : ∀ {l : List Kd} {xs : List V}, TK H H' → Kd.Ats H l xs → Kd.Ats H' l xs
  | [], _, _, h => h
  | k :: l, _, t, ⟨x, ys, e, h1, h2⟩ => ⟨x, ys, e, Kd.At.keep t h1, Kd.Ats.keep t h2⟩
end
mutual
theorem Kd.At.dp {K : PySem.W.Frag} {H : Hp} : ∀ {k : Kd} {v : V}, k.At H v → Dp K H v k.D
  | .nm s, _, ⟨a, e, h⟩ => by
    subst e
    exact .tup (SqT.of h) (.cons (.str _) (.cons (.str _) .nil))
  | .mt i, _, ⟨a, e, h⟩ => by
    subst e
    exact .tup (SqT.of h) (.cons (.str _) (.cons (.int _) .nil))
  | .fn p q, _, ⟨a, x, y, e, h, h1, h2⟩ => by
    subst e
    exact .tup (SqT.of h) (.cons (.str _) (.cons (Kd.At.dp h1) (.cons (Kd.At.dp h2) .nil)))
  | .cn s l, _, ⟨a, b, xs, e, h, hb, hl⟩ => by
    subst e
    exact .tup (SqT.of h) (.cons (.str _) (.cons (.str _) (.cons (.tup (SqT.of hb) (Kd.Ats.dp hl)) .nil)))
theorem Kd.Ats.dp {K : PySem.W.Frag} {H : Hp} : ∀ {l : List Kd} {xs : List V}, Kd.Ats H l xs → DpAll K H xs (Kd.Ds l)
  | [], _, h => by
    have e : _ = [] := h
    subst e
    exact .nil
  | k :: l, _, ⟨x, ys, e, h1, h2⟩ => by
    subst e
    exact .cons (Kd.At.dp h1) (Kd.Ats.dp h2)
end
theorem Kd.Ats.len {H : Hp} : ∀ {l : List Kd} {xs : List V}, Kd.Ats H l xs → xs.length = l.length
  | [], _, h => by
    have e : _ = [] := h
    subst e
    rfl
  | k :: l, _, ⟨x, ys, e, h1, h2⟩ => by
    subst e
    rw [List.length_cons, List.length_cons, Kd.Ats.len h2]
theorem Kd.Ats.get {H : Hp} : ∀ {l : List Kd} {xs : List V} (j : Nat) {x : V}, Kd.Ats H l xs → xs[j]? = some x → ∃ k, l[j]? = some k ∧ k.At H x
  | [], _, j, x, h, e => by
    have z : _ = [] := h
    subst z
    simp at e
  | k :: l, _, 0, x, ⟨y, ys, e, h1, h2⟩, q => by
    subst e
    have z : y = x := Option.some.inj q
    subst z
    exact ⟨k, rfl, h1⟩
  | k :: l, _, j + 1, x, ⟨y, ys, e, h1, h2⟩, q => by
    subst e
    exact Kd.Ats.get (l := l) j h2 q
/-- the tuple of a type: its word, then what it has -/
def Kd.word : Kd → Str
  | .nm _ => "name"
  | .mt _ => "meta"
  | .fn _ _ => "fun"
  | .cn _ _ => "con"
theorem Kd.At.tup {H : Hp} : ∀ {k : Kd} {v : V}, k.At H v → ∃ a xs, v = .ref a ∧ H a = some (.tup (.str k.word :: xs))
  | .nm s, _, ⟨a, e, h⟩ => ⟨a, _, e, h⟩
  | .mt i, _, ⟨a, e, h⟩ => ⟨a, _, e, h⟩
  | .fn p q, _, ⟨a, x, y, e, h, _⟩ => ⟨a, _, e, h⟩
  | .cn s l, _, ⟨a, b, xs, e, h, _⟩ => ⟨a, _, e, h⟩
/-! ### sizes, depths, what may be compared -/
mutual
def Kd.size : Kd → Nat
  | .nm _ => 1
  | .mt _ => 1
  | .fn a b => 1 + a.size + b.size
  | .cn _ l => 1 + Kd.sizes l
def Kd.sizes : List Kd → Nat
  | [] => 0
  | k :: l => k.size + Kd.sizes l
end
theorem Kd.sizes_app : ∀ a b : List Kd, Kd.sizes (a ++ b) = Kd.sizes a + Kd.sizes b
  | [], b => by rw [List.nil_append, Kd.sizes, Nat.zero_add]
  | k :: a, b => by rw [List.cons_append, Kd.sizes, Kd.sizes, Kd.sizes_app a b, Nat.add_assoc]
mutual
def Kd.dep : Kd → Nat
  | .nm _ => 0
  | .mt _ => 0
  | .fn a b => 1 + max a.dep b.dep
  | .cn _ l => 1 + Kd.deps l
def Kd.deps : List Kd → Nat
  | [] => 0
  | k :: l => max k.dep (Kd.deps l)
end
mutual
/-- its texts are texts that may be compared -/
def Kd.lay : Kd → Bool
  | .nm s => PyData.strOk s
  | .mt _ => true
  | .fn a b => a.lay && b.lay
  | .cn s l => PyData.strOk s && Kd.lays l
def Kd.lays : List Kd → Bool
  | [] => true
  | k :: l => k.lay && Kd.lays l
end
theorem ok_name : PyData.strOk "name" = true := by decide +kernel
theorem ok_meta : PyData.strOk "meta" = true := by decide +kernel
theorem ok_fun : PyData.strOk "fun" = true := by decide +kernel
theorem ok_con : PyData.strOk "con" = true := by decide +kernel
mutual
theorem Kd.canLay : ∀ k : Kd, k.lay = true → k.D.canLay0 = true
  | .nm s, h => by
    have h : PyData.strOk s = true := h
    simp [Kd.D, PyData.canLay0, PyData.canLayAll0, ok_name, h]
  | .mt i, _ => by simp [Kd.D, PyData.canLay0, PyData.canLayAll0, ok_meta]
  | .fn a b, h => by
    have h : (a.lay && b.lay) = true := h
    rw [Bool.and_eq_true] at h
    simp [Kd.D, PyData.canLay0, PyData.canLayAll0, ok_fun, Kd.canLay a h.1, Kd.canLay b h.2]
  | .cn s l, h => by
    have h : (PyData.strOk s && Kd.lays l) = true := h
    rw [Bool.and_eq_true] at h
    simp [Kd.D, PyData.canLay0, PyData.canLayAll0, ok_con, h.1, Kd.canLays l h.2]
theorem Kd.canLays : ∀ l : List Kd, Kd.lays l = true → PyData.canLayAll0 (Kd.Ds l) = true
  | [], _ => by simp [Kd.Ds, PyData.canLayAll0]
  | k :: l, h => by
    have h : (k.lay && Kd.lays l) = true := h
    rw [Bool.and_eq_true] at h
    simp [Kd.Ds, PyData.canLayAll0, Kd.canLay k h.1, Kd.canLays l h.2]
end
mutual
theorem Kd.depth_le : ∀ k : Kd, k.D.depth ≤ 2 * k.dep + 1
  | .nm s => by simp [Kd.D, PyData.depth, PyData.depthAll]
  | .mt i => by simp [Kd.D, PyData.depth, PyData.depthAll]
  | .fn a b => by
    have h1 := Kd.depth_le a
    have h2 := Kd.depth_le b
    simp [Kd.D, PyData.depth, PyData.depthAll, Kd.dep]
    omega
  | .cn s l => by
    have h1 := Kd.depths_le l
    simp [Kd.D, PyData.depth, PyData.depthAll, Kd.dep]
    omega
theorem Kd.depths_le : ∀ l : List Kd, PyData.depthAll (Kd.Ds l) ≤ 2 * Kd.deps l + 1
  | [] => by simp [Kd.Ds, PyData.depthAll]
  | k :: l => by
    have h1 := Kd.depth_le k
    have h2 := Kd.depths_le l
    simp [Kd.Ds, PyData.depthAll, Kd.deps]
    omega
end
theorem Kd.shaped {k : Kd} (h : k.lay = true) (d : k.dep ≤ 30) : SeqAt.shaped k.D = true := by
  unfold SeqAt.shaped
  rw [Bool.and_eq_true]
  have := Kd.depth_le k
  exact ⟨Kd.canLay k h, decide_eq_true (by omega)⟩
theorem sne1 : (("name" : Str) == "meta") = false := by decide +kernel
theorem sne2 : (("meta" : Str) == "name") = false := by decide +kernel
theorem sne3 : (("name" : Str) == "fun") = false := by decide +kernel
theorem sne4 : (("fun" : Str) == "name") = false := by decide +kernel
theorem sne5 : (("name" : Str) == "con") = false := by decide +kernel
theorem sne6 : (("con" : Str) == "name") = false := by decide +kernel
theorem sne7 : (("meta" : Str) == "fun") = false := by decide +kernel
theorem sne8 : (("fun" : Str) == "meta") = false := by decide +kernel
theorem sne9 : (("meta" : Str) == "con") = false := by decide +kernel
theorem sne10 : (("con" : Str) == "meta") = false := by decide +kernel
theorem sne11 : (("fun" : Str) == "con") = false := by decide +kernel
theorem sne12 : (("con" : Str) == "fun") = false := by decide +kernel
theorem str_eqv (x y : Str) : PyData.eqv (.str x) (.str y) = (x == y) := by rw [PyData.eqv]
theorem int_eqv (x y : Int) : PyData.eqv (.int x) (.int y) = (x == y) := by rw [PyData.eqv]
theorem is_eqv (x : Str) (y : Int) : PyData.eqv (.str x) (.int y) = false := by rw [PyData.eqv]
theorem si_eqv (x : Str) (y : Int) : PyData.eqv (.int y) (.str x) = false := by rw [PyData.eqv]
theorem tup_eqv (x y : List PyData) : PyData.eqv (.tuple x) (.tuple y) = PyData.eqvAll x y := by rw [PyData.eqv]
theorem all_eqv (a b : PyData) (x y : List PyData) : PyData.eqvAll (a :: x) (b :: y) = (PyData.eqv a b && PyData.eqvAll x y) := by rw [PyData.eqvAll]
theorem nil_eqv : PyData.eqvAll [] [] = true := by rw [PyData.eqvAll]
theorem nc_eqv (b : PyData) (y : List PyData) : PyData.eqvAll [] (b :: y) = false := by rw [PyData.eqvAll]
theorem cn_eqv (b : PyData) (y : List PyData) : PyData.eqvAll (b :: y) [] = false := by rw [PyData.eqvAll]
theorem Kd.eqv_word {k m : Kd} (h : (k.word == m.word) = false) : PyData.eqv k.D m.D = false := by
  have e : ∀ k : Kd, ∃ l, k.D = .tuple (.str k.word :: l) := fun k => by cases k <;> exact ⟨_, rfl⟩
  obtain ⟨l1, e1⟩ := e k
  obtain ⟨l2, e2⟩ := e m
  rw [e1, e2, tup_eqv, all_eqv, str_eqv, h, Bool.false_and]
theorem iff_ne {b : Bool} {p : Prop} (h : b = false) (n : ¬ p) : b = true ↔ p := ⟨fun e => (by rw [h] at e; cases e), fun q => (n q).elim⟩
mutual
theorem Kd.eqv_iff : ∀ k m : Kd, PyData.eqv k.D m.D = true ↔ k = m
  | .nm s, m => by
    cases m with
    | nm t =>
      rw [Kd.D, Kd.D, tup_eqv, all_eqv, all_eqv, str_eqv, str_eqv, nil_eqv, beq_self_eq_true, Bool.true_and, Bool.and_true, beq_iff_eq]
      exact ⟨fun e => by rw [e], fun e => by cases e; rfl⟩
    | mt j => exact iff_ne (Kd.eqv_word sne1) (fun e => by cases e)
    | fn c d => exact iff_ne (Kd.eqv_word sne3) (fun e => by cases e)
    | cn t m => exact iff_ne (Kd.eqv_word sne5) (fun e => by cases e)
  | .mt i, m => by
    cases m with
    | nm t => exact iff_ne (Kd.eqv_word sne2) (fun e => by cases e)
    | mt j =>
      rw [Kd.D, Kd.D, tup_eqv, all_eqv, all_eqv, str_eqv, int_eqv, nil_eqv, beq_self_eq_true, Bool.true_and, Bool.and_true, beq_iff_eq]
      exact ⟨fun e => by rw [e], fun e => by cases e; rfl⟩
    | fn c d => exact iff_ne (Kd.eqv_word sne7) (fun e => by cases e)
    | cn t m => exact iff_ne (Kd.eqv_word sne9) (fun e => by cases e)
  | .fn a b, m => by
    cases m with
    | nm t => exact iff_ne (Kd.eqv_word sne4) (fun e => by cases e)
    | mt j => exact iff_ne (Kd.eqv_word sne8) (fun e => by cases e)
    | fn c d =>
      rw [Kd.D, Kd.D, tup_eqv, all_eqv, all_eqv, all_eqv, str_eqv, nil_eqv, beq_self_eq_true, Bool.true_and, Bool.and_true, Bool.and_eq_true, Kd.eqv_iff a c, Kd.eqv_iff b d]
      exact ⟨fun e => by rw [e.1, e.2], fun e => by cases e; exact ⟨rfl, rfl⟩⟩
    | cn t m => exact iff_ne (Kd.eqv_word sne11) (fun e => by cases e)
  | .cn s l, m => by
    cases m with
    | nm t => exact iff_ne (Kd.eqv_word sne6) (fun e => by cases e)
    | mt j => exact iff_ne (Kd.eqv_word sne10) (fun e => by cases e)
    | fn c d => exact iff_ne (Kd.eqv_word sne12) (fun e => by cases e)
    | cn t m =>
      rw [Kd.D, Kd.D, tup_eqv, all_eqv, all_eqv, all_eqv, str_eqv, str_eqv, tup_eqv, nil_eqv, beq_self_eq_true, Bool.true_and, Bool.and_true, Bool.and_eq_true, beq_iff_eq, Kd.eqvs_iff l m]
      exact ⟨fun e => by rw [e.1, e.2], fun e => by cases e; exact ⟨rfl, rfl⟩⟩
theorem Kd.eqvs_iff : ∀ l m : List Kd, PyData.eqvAll (Kd.Ds l) (Kd.Ds m) = true ↔ l = m
  | [], m => by
    cases m with
    | nil => rw [Kd.Ds, nil_eqv]; exact ⟨fun _ => rfl, fun _ => rfl⟩
    | cons n m => rw [Kd.Ds, Kd.Ds]; exact iff_ne (nc_eqv _ _) (fun e => by cases e)
  | k :: l, m => by
    cases m with
    | nil => rw [Kd.Ds, Kd.Ds]; exact iff_ne (cn_eqv _ _) (fun e => by cases e)
    | cons n m =>
      rw [Kd.Ds, Kd.Ds, all_eqv, Bool.and_eq_true, Kd.eqv_iff k n, Kd.eqvs_iff l m]
      exact ⟨fun e => by rw [e.1, e.2], fun e => by cases e; exact ⟨rfl, rfl⟩⟩
end
end Toy

set_option Elab.async false
set_option linter.all false
set_option maxRecDepth 100000
set_option maxHeartbeats 4000000
/-! Part M: leaves; types put in the place of names; when a type is an instance of another. -/
namespace Toy
open PySem L2
mutual
/-- the leaves of one word ("name" | "meta"), from left to right -/
def Kd.lv (w : Str) : Kd → List Key
  | .nm s => if w = "name" then [Sum.inr s] else []
  | .mt i => if w = "meta" then [Sum.inl i] else []
  | .fn a b => a.lv w ++ b.lv w
  | .cn _ l => Kd.lvs w l
def Kd.lvs (w : Str) : List Kd → List Key
  | [] => []
  | k :: l => k.lv w ++ Kd.lvs w l
end
theorem Kd.lvs_app (w : Str) : ∀ a b : List Kd, Kd.lvs w (a ++ b) = Kd.lvs w a ++ Kd.lvs w b
  | [], b => rfl
  | k :: a, b => by rw [List.cons_append, Kd.lvs, Kd.lvs, Kd.lvs_app w a b, List.append_assoc]
/-- one more key, unless it is there -/
noncomputable def addK (ks : List Key) (k : Key) : List Key := open Classical in if k ∈ ks then ks else ks ++ [k]
noncomputable def addAll (ks l : List Key) : List Key := l.foldl addK ks
theorem addAll_app (ks a b : List Key) : addAll ks (a ++ b) = addAll (addAll ks a) b := List.foldl_append
theorem mem_addK {ks : List Key} {k j : Key} : j ∈ addK ks k ↔ j ∈ ks ∨ j = k := by
  unfold addK
  split
  · rename_i h
    exact ⟨.inl, fun e => by rcases e with e | e; exact e; rw [e]; exact h⟩
  · rw [List.mem_append, List.mem_singleton]
theorem mem_addAll : ∀ {l ks : List Key} {j : Key}, j ∈ addAll ks l ↔ j ∈ ks ∨ j ∈ l
  | [], ks, j => by simp [addAll]
  | k :: l, ks, j => by
    show j ∈ addAll (addK ks k) l ↔ _
    rw [mem_addAll, mem_addK, List.mem_cons]
    constructor
    · rintro ((h | h) | h)
      · exact .inl h
      · exact .inr (.inl h)
      · exact .inr (.inr h)
    · rintro (h | h | h)
      · exact .inl (.inl h)
      · exact .inl (.inr h)
      · exact .inr h
theorem len_addK (ks : List Key) (k : Key) : (addK ks k).length ≤ ks.length + 1 := by
  unfold addK
  split
  · omega
  · rw [List.length_append, List.length_singleton]
    exact Nat.le_refl _
theorem Kd.size_parts : ∀ k : Kd, Kd.sizes k.parts + 1 = k.size
  | .nm s => rfl
  | .mt i => rfl
  | .fn a b => by
    show Kd.sizes [a, b] + 1 = 1 + a.size + b.size
    rw [Kd.sizes, Kd.sizes, Kd.sizes]
    omega
  | .cn s l => by show Kd.sizes l + 1 = 1 + Kd.sizes l; omega
/-- what a part lists itself -/
def Kd.own (w : Str) : Kd → List Key
  | .nm s => if w = "name" then [Sum.inr s] else []
  | .mt i => if w = "meta" then [Sum.inl i] else []
  | _ => []
theorem Kd.lv_own (w : Str) : ∀ k : Kd, k.lv w = k.own w ++ Kd.lvs w k.parts
  | .nm s => by show _ = _ ++ []; rw [List.append_nil]; rfl
  | .mt i => by show _ = _ ++ []; rw [List.append_nil]; rfl
  | .fn a b => by
      show a.lv w ++ b.lv w = Kd.lvs w [a, b]
      rw [Kd.lvs, Kd.lvs, Kd.lvs, List.append_nil]
  | .cn s l => rfl
/-- the walk with a stack, its top first -/
theorem Kd.walk_step (w : Str) (k : Kd) (stack : List Kd) (ks : List Key) :
    addAll ks (Kd.lvs w (k :: stack)) = addAll (addAll ks (k.own w)) (Kd.lvs w (k.parts ++ stack)) := by
  rw [Kd.lvs, Kd.lv_own w k, Kd.lvs_app, List.append_assoc, addAll_app]
/-- the dict that stands for a row of keys -/
def setOf (ks : List Key) : List (Key × V) := ks.map fun k => (k, V.bl true)
theorem put_set (ks : List Key) (k : Key) : putK (setOf ks) k (V.bl true) = setOf (addK ks k) := by
  unfold putK addK
  by_cases h : k ∈ ks
  · have e : ((setOf ks).any fun kv => decide (kv.1 = k)) = true := by
      rw [List.any_eq_true]
      exact ⟨(k, V.bl true), List.mem_map.mpr ⟨k, h, rfl⟩, decide_eq_true rfl⟩
    rw [if_pos e, if_pos h]
    unfold setOf
    rw [List.map_map]
    refine List.map_congr_left fun x _ => ?_
    show (if x = k then (x, V.bl true) else (x, V.bl true)) = _
    split <;> rfl
  · have e : ¬ ((setOf ks).any fun kv => decide (kv.1 = k)) = true := by
      rw [List.any_eq_true]
      rintro ⟨⟨x, v⟩, hx, hd⟩
      obtain ⟨y, hy, e2⟩ := List.mem_map.mp hx
      have e3 : x = k := of_decide_eq_true hd
      have e4 : y = x := congrArg Prod.fst e2
      exact h (by rw [← e3, ← e4]; exact hy)
    rw [if_neg e, if_neg h]
    unfold setOf
    rw [List.map_append]
    rfl
/-! ### instances -/
mutual
def Kd.sub (f : Str → Kd) : Kd → Kd
  | .nm s => f s
  | .mt i => .mt i
  | .fn a b => .fn (a.sub f) (b.sub f)
  | .cn s l => .cn s (Kd.subs f l)
def Kd.subs (f : Str → Kd) : List Kd → List Kd
  | [] => []
  | k :: l => k.sub f :: Kd.subs f l
end
theorem Kd.subs_len (f : Str → Kd) : ∀ l : List Kd, (Kd.subs f l).length = l.length
  | [] => rfl
  | k :: l => by rw [Kd.subs, List.length_cons, List.length_cons, Kd.subs_len f l]
theorem Kd.subs_iff (f : Str → Kd) : ∀ (l m : List Kd), l.length = m.length → (Kd.subs f l = m ↔ ∀ q ∈ l.zip m, q.1.sub f = q.2)
  | [], [], _ => by simp [Kd.subs]
  | [], _ :: _, h => by cases h
  | _ :: _, [], h => by cases h
  | k :: l, n :: m, h => by
    rw [Kd.subs, List.cons.injEq, Kd.subs_iff f l m (Nat.succ.inj h), List.zip_cons_cons, List.forall_mem_cons]
def Kd.alike : Kd → Kd → Bool
  | .nm s, .nm t => s == t
  | .mt i, .mt j => i == j
  | .fn _ _, .fn _ _ => true
  | .cn s l, .cn t m => l.length == m.length && s == t
  | _, _ => false
theorem Kd.alike_word {k m : Kd} (h : (k.word == m.word) = false) : k.alike m = false := by
  cases k <;> cases m <;> first | rfl | (exfalso; revert h; simp [Kd.word])
theorem Kd.alike_no (f : Str → Kd) : ∀ p k : Kd, (∀ s, p ≠ .nm s) → p.alike k = false → p.sub f ≠ k
  | .nm s, _, n, _ => (n s rfl).elim
  | .mt i, k, _, h => fun e => by
    rw [← e] at h
    simp [Kd.alike, Kd.sub] at h
  | .fn a b, k, _, h => fun e => by
    rw [← e] at h
    simp [Kd.alike, Kd.sub] at h
  | .cn s l, k, _, h => fun e => by
    rw [← e] at h
    simp [Kd.alike, Kd.sub, Kd.subs_len] at h
theorem Kd.alike_yes (f : Str → Kd) : ∀ p k : Kd, (∀ s, p ≠ .nm s) → p.alike k = true → p.parts.length = k.parts.length ∧ (p.sub f = k ↔ ∀ q ∈ p.parts.zip k.parts, q.1.sub f = q.2)
  | .nm s, _, n, _ => (n s rfl).elim
  | .mt i, k, _, h => by
    cases k with
    | mt j =>
      have e : i = j := by simpa [Kd.alike] using h
      subst e
      exact ⟨rfl, by simp [Kd.sub, Kd.parts]⟩
    | _ => cases h
  | .fn a b, k, _, h => by
    cases k with
    | fn c d => exact ⟨rfl, by simp [Kd.sub, Kd.parts]⟩
    | _ => cases h
  | .cn s l, k, _, h => by
    cases k with
    | cn t m =>
      have e : l.length = m.length ∧ s = t := by simpa [Kd.alike] using h
      obtain ⟨e1, e2⟩ := e
      subst e2
      refine ⟨e1, ?_⟩
      rw [Kd.sub]
      have z := Kd.subs_iff f l m e1
      exact ⟨fun q => z.mp (by cases q; rfl), fun q => by rw [z.mpr q]⟩
    | _ => cases h
abbrev Sb := List (Str × Kd)
def Fits (f : Str → Kd) (σ : Sb) : Prop := ∀ q ∈ σ, f q.1 = q.2
def Solves (f : Str → Kd) (todo : List (Kd × Kd)) : Prop := ∀ q ∈ todo, q.1.sub f = q.2
/-- some way to put types in the place of names -/
def Sol (σ : Sb) (todo : List (Kd × Kd)) : Prop := ∃ f, Fits f σ ∧ Solves f todo
theorem look_fits {f : Str → Kd} : ∀ {σ : Sb} {s : Str} {k : Kd}, σ.lookup s = some k → Fits f σ → f s = k
  | [], _, _, h, _ => by cases h
  | (t, m) :: σ, s, k, h, hf => by
    rw [List.lookup_cons] at h
    split at h
    · rename_i e
      have e : s = t := by simpa using e
      cases h
      subst e
      exact hf _ (List.mem_cons_self ..)
    · exact look_fits h fun q hq => hf q (List.mem_cons_of_mem _ hq)
theorem fits_add {f : Str → Kd} {σ : Sb} {s : Str} {k : Kd} : Fits f (σ ++ [(s, k)]) ↔ Fits f σ ∧ f s = k := by
  unfold Fits
  constructor
  · intro h
    exact ⟨fun q hq => h q (List.mem_append_left _ hq), h (s, k) (List.mem_append_right _ (List.mem_singleton.mpr rfl))⟩
  · rintro ⟨h1, h2⟩ q hq
    rcases List.mem_append.mp hq with hq | hq
    · exact h1 q hq
    · rw [List.mem_singleton.mp hq]
      exact h2
theorem look_none : ∀ {σ : Sb} {s : Str}, σ.lookup s = none → s ∉ σ.map (·.1)
  | [], _, _ => fun h => by cases h
  | (t, m) :: σ, s, h => by
    rw [List.lookup_cons] at h
    split at h
    · cases h
    · rename_i e
      intro z
      rcases List.mem_cons.mp z with z | z
      · rw [show s = t from z] at e
        simp at e
      · exact look_none h z
theorem nodup_add {σ : Sb} {s : Str} {k : Kd} (h : (σ.map (·.1)).Nodup) (n : σ.lookup s = none) : ((σ ++ [(s, k)]).map (·.1)).Nodup := by
  rw [List.map_append, List.nodup_append]
  refine ⟨h, by simp, fun a ha b hb => ?_⟩
  have e : b = s := by simpa using hb
  rw [e]
  exact fun z => look_none n (z ▸ ha)
theorem fits_some : ∀ {σ : Sb}, (σ.map (·.1)).Nodup → ∃ f, Fits f σ := by
  intro σ h
  refine ⟨fun s => (σ.lookup s).getD (.nm s), ?_⟩
  intro q hq
  show (σ.lookup q.1).getD _ = q.2
  have z : σ.lookup q.1 = some q.2 := by
    induction σ with
    | nil => cases hq
    | cons p σ ih =>
      obtain ⟨t, m⟩ := p
      rw [List.lookup_cons]
      have hn := List.nodup_cons.mp (show (t :: σ.map (·.1)).Nodup from h)
      rcases List.mem_cons.mp hq with e | hq'
      · subst e
        rw [beq_self_eq_true]
      · have ne : (q.1 == t) = false := by
          rw [beq_eq_false_iff_ne]
          intro e
          exact hn.1 (e ▸ List.mem_map.mpr ⟨q, hq', rfl⟩)
        rw [ne]
        exact ih hn.2 hq'
  rw [z]
  rfl
theorem sol_nil {σ : Sb} (h : (σ.map (·.1)).Nodup) : Sol σ [] := by
  obtain ⟨f, hf⟩ := fits_some h
  exact ⟨f, hf, fun q hq => by cases hq⟩
theorem solves_snoc {f : Str → Kd} {todo : List (Kd × Kd)} {p k : Kd} : Solves f (todo ++ [(p, k)]) ↔ Solves f todo ∧ p.sub f = k := by
  unfold Solves
  constructor
  · intro h
    exact ⟨fun q hq => h q (List.mem_append_left _ hq), h (p, k) (List.mem_append_right _ (List.mem_singleton.mpr rfl))⟩
  · rintro ⟨h1, h2⟩ q hq
    rcases List.mem_append.mp hq with hq | hq
    · exact h1 q hq
    · rw [List.mem_singleton.mp hq]
      exact h2
theorem solves_app {f : Str → Kd} {a b : List (Kd × Kd)} : Solves f (a ++ b) ↔ Solves f a ∧ Solves f b := by
  unfold Solves
  exact ⟨fun h => ⟨fun q hq => h q (List.mem_append_left _ hq), fun q hq => h q (List.mem_append_right _ hq)⟩, fun h q hq => (List.mem_append.mp hq).elim (h.1 q) (h.2 q)⟩
/-- the steps -/
theorem sol_there {σ : Sb} {todo : List (Kd × Kd)} {s : Str} {m k : Kd} (h : σ.lookup s = some m) (e : m = k) : Sol σ (todo ++ [(.nm s, k)]) ↔ Sol σ todo := by
  constructor
  · rintro ⟨f, h1, h2⟩
    exact ⟨f, h1, (solves_snoc.mp h2).1⟩
  · rintro ⟨f, h1, h2⟩
    exact ⟨f, h1, solves_snoc.mpr ⟨h2, by rw [Kd.sub, look_fits h h1, e]⟩⟩
theorem sol_clash {σ : Sb} {todo : List (Kd × Kd)} {s : Str} {m k : Kd} (h : σ.lookup s = some m) (e : m ≠ k) : ¬ Sol σ (todo ++ [(.nm s, k)]) := by
  rintro ⟨f, h1, h2⟩
  have z := (solves_snoc.mp h2).2
  rw [Kd.sub, look_fits h h1] at z
  exact e z
theorem sol_add {σ : Sb} {todo : List (Kd × Kd)} {s : Str} {k : Kd} : Sol σ (todo ++ [(.nm s, k)]) ↔ Sol (σ ++ [(s, k)]) todo := by
  constructor
  · rintro ⟨f, h1, h2⟩
    exact ⟨f, fits_add.mpr ⟨h1, by have z := (solves_snoc.mp h2).2; rwa [Kd.sub] at z⟩, (solves_snoc.mp h2).1⟩
  · rintro ⟨f, h1, h2⟩
    exact ⟨f, (fits_add.mp h1).1, solves_snoc.mpr ⟨h2, by rw [Kd.sub]; exact (fits_add.mp h1).2⟩⟩
theorem sol_no {σ : Sb} {todo : List (Kd × Kd)} {p k : Kd} (n : ∀ s, p ≠ .nm s) (h : p.alike k = false) : ¬ Sol σ (todo ++ [(p, k)]) := by
  rintro ⟨f, _, h2⟩
  exact Kd.alike_no f p k n h (solves_snoc.mp h2).2
theorem sol_yes {σ : Sb} {todo : List (Kd × Kd)} {p k : Kd} (n : ∀ s, p ≠ .nm s) (h : p.alike k = true) : Sol σ (todo ++ [(p, k)]) ↔ Sol σ (todo ++ p.parts.zip k.parts) := by
  constructor
  · rintro ⟨f, h1, h2⟩
    have z := solves_snoc.mp h2
    exact ⟨f, h1, solves_app.mpr ⟨z.1, (Kd.alike_yes f p k n h).2.mp z.2⟩⟩
  · rintro ⟨f, h1, h2⟩
    have z := solves_app.mp h2
    exact ⟨f, h1, solves_snoc.mpr ⟨z.1, (Kd.alike_yes f p k n h).2.mpr z.2⟩⟩
/-! ### a dict of what was found -/
section
variable {κ : Type} [DecidableEq κ]
def FoundAs (key : Str → κ) (H : Hp) : List (κ × V) → Sb → Prop
  | [], σ => σ = []
  | p :: kvs, σ => ∃ s m τ, σ = (s, m) :: τ ∧ p.1 = key s ∧ m.At H p.2 ∧ FoundAs key H kvs τ
theorem FoundAs.keep {key : Str → κ} {H H' : Hp} (t : TK H H') : ∀ {kvs : List (κ × V)} {σ : Sb}, FoundAs key H kvs σ → FoundAs key H' kvs σ
  | [], _, h => h
  | p :: kvs, _, ⟨s, m, τ, e, h1, h2, h3⟩ => ⟨s, m, τ, e, h1, h2.keep t, FoundAs.keep t h3⟩
theorem FoundAs.len {key : Str → κ} {H : Hp} : ∀ {kvs : List (κ × V)} {σ : Sb}, FoundAs key H kvs σ → kvs.length = σ.length
  | [], _, h => by
    have e : _ = [] := h
    rw [e]
    rfl
  | p :: kvs, _, ⟨s, m, τ, e, h1, h2, h3⟩ => by rw [e, List.length_cons, List.length_cons, FoundAs.len h3]
theorem FoundAs.look {key : Str → κ} (inj : ∀ s t, key s = key t → s = t) {H : Hp} (s : Str) : ∀ {kvs : List (κ × V)} {σ : Sb}, FoundAs key H kvs σ → (σ.lookup s = none ∧ valV kvs (key s) = none) ∨ ∃ m v, σ.lookup s = some m ∧ valV kvs (key s) = some v ∧ m.At H v
  | [], _, h => by
    have e : _ = [] := h
    subst e
    exact .inl ⟨rfl, rfl⟩
  | p :: kvs, _, ⟨t, m, τ, e, h1, h2, h3⟩ => by
    subst e
    by_cases z : s = t
    · subst z
      exact .inr ⟨m, p.2, by rw [List.lookup_cons, beq_self_eq_true], valV_pos h1, h2⟩
    · have ne : (s == t) = false := by rw [beq_eq_false_iff_ne]; exact z
      rw [List.lookup_cons, ne, valV_neg (fun q => z (inj _ _ (q.symm.trans h1)))]
      exact FoundAs.look inj s h3
theorem FoundAs.add {key : Str → κ} {H : Hp} {s : Str} {m : Kd} {v : V} (hm : m.At H v) : ∀ {kvs : List (κ × V)} {σ : Sb}, FoundAs key H kvs σ → FoundAs key H (kvs ++ [(key s, v)]) (σ ++ [(s, m)])
  | [], _, h => by
    have e : _ = [] := h
    subst e
    exact ⟨s, m, [], rfl, rfl, hm, rfl⟩
  | p :: kvs, _, ⟨t, n, τ, e, h1, h2, h3⟩ => ⟨t, n, τ ++ [(s, m)], by rw [e]; rfl, h1, h2, FoundAs.add hm h3⟩
end
end Toy

set_option Elab.async false
set_option linter.all false
set_option maxRecDepth 100000
set_option maxHeartbeats 4000000
/-! Part C: the program's defs over types. -/
namespace Toy
open PySem L2
open PyProof.Rows (envOfC)
def Kd.tag : Kd → Nat
  | .nm _ => 0
  | .mt _ => 1
  | .fn _ _ => 2
  | .cn _ _ => 3
theorem Kd.word_tag {k m : Kd} (h : k.word = m.word) : k.tag = m.tag := by
  have q : (k.word == m.word) = true := beq_iff_eq.mpr h
  cases k <;> cases m <;> first | rfl | (exfalso; first | exact absurd (q.symm.trans sne1) (by decide) | exact absurd (q.symm.trans sne2) (by decide) | exact absurd (q.symm.trans sne3) (by decide) | exact absurd (q.symm.trans sne4) (by decide) | exact absurd (q.symm.trans sne5) (by decide) | exact absurd (q.symm.trans sne6) (by decide) | exact absurd (q.symm.trans sne7) (by decide) | exact absurd (q.symm.trans sne8) (by decide) | exact absurd (q.symm.trans sne9) (by decide) | exact absurd (q.symm.trans sne10) (by decide) | exact absurd (q.symm.trans sne11) (by decide) | exact absurd (q.symm.trans sne12) (by decide))
theorem Kd.word_fun {k : Kd} (h : k.tag ≠ 2) : k.word ≠ "fun" := fun e => h (Kd.word_tag (m := .fn (.nm "a") (.nm "a")) e)
theorem Kd.alike_len {k m : Kd} (h : ¬ k.parts.length = m.parts.length) : k.alike m = false := by
  cases k <;> cases m <;> first | rfl | exact absurd rfl h | skip
  rename_i s l t n
  show (l.length == n.length && s == t) = false
  rw [show (l.length == n.length) = false from by rw [beq_eq_false_iff_ne]; exact h, Bool.false_and]
/-- a leaf: its second item -/
theorem Kd.At.leaf {H : Hp} {wd : Str} (hw : wd = "name" ∨ wd = "meta") {a : Addr} : ∀ {k : Kd}, k.At H (.ref a) → k.word = wd → ∃ key : Key, k.own wd = [key] ∧ H a = some (.tup [.str k.word, kV key])
  | .nm s, h, e => by
    obtain ⟨_, z, h⟩ := h
    cases z
    exact ⟨Sum.inr s, by rw [← e]; rfl, h⟩
  | .mt i, h, e => by
    obtain ⟨_, z, h⟩ := h
    cases z
    exact ⟨Sum.inl i, by rw [← e]; rfl, h⟩
  | .fn p q, _, e => by
    have e : (Kd.fn p q).word = wd := e
    rcases hw with w | w
    · exact absurd (Kd.word_tag (m := .nm "a") (e.trans w)) (by simp [Kd.tag])
    · exact absurd (Kd.word_tag (m := .mt 0) (e.trans w)) (by simp [Kd.tag])
  | .cn s l, _, e => by
    have e : (Kd.cn s l).word = wd := e
    rcases hw with w | w
    · exact absurd (Kd.word_tag (m := .nm "a") (e.trans w)) (by simp [Kd.tag])
    · exact absurd (Kd.word_tag (m := .mt 0) (e.trans w)) (by simp [Kd.tag])
theorem Kd.own_not {wd : Str} : ∀ {k : Kd}, k.word ≠ wd → k.own wd = []
  | .nm s, h => if_neg fun e => h e.symm
  | .mt i, h => if_neg fun e => h e.symm
  | .fn p q, _ => rfl
  | .cn s l, _ => rfl
theorem Kd.Ats.app {H : Hp} : ∀ {l m : List Kd} {xs ys : List V}, Kd.Ats H l xs → Kd.Ats H m ys → Kd.Ats H (l ++ m) (xs ++ ys)
  | [], _, _, _, h, k => by
    have e : _ = [] := h
    subst e
    exact k
  | p :: l, _, _, _, ⟨x, zs, e, h1, h2⟩, k => by
    subst e
    exact ⟨x, _, rfl, h1, Kd.Ats.app h2 k⟩
theorem own_len (k : Kd) (wd : Str) (ks : List Key) : (addAll ks (k.own wd)).length ≤ ks.length + 1 := by
  have one : ∀ (c : Prop) [Decidable c] (key : Key), (addAll ks (if c then [key] else [])).length ≤ ks.length + 1 := fun c _ key => by
    split
    · exact len_addK ks key
    · exact Nat.le_succ _
  cases k with
  | nm s => exact one _ _
  | mt i => exact one _ _
  | fn a b => exact Nat.le_succ _
  | cn s l => exact Nat.le_succ _
theorem Kd.sizes_len : ∀ l : List Kd, l.length ≤ Kd.sizes l
  | [] => Nat.le_refl _
  | k :: l => by
    have h1 := Kd.sizes_len l
    have h2 := Kd.size_parts k
    rw [Kd.sizes, List.length_cons]
    omega
theorem at0 (x : V) (l : List V) : atI (x :: l) 0 = some x := atI_nat (j := 0) rfl
theorem at1 (x y : V) (l : List V) : atI (x :: y :: l) 1 = some y := atI_nat (j := 1) rfl
structure TxtT (mg : Str → Option Value) : Prop where
  ztuple : mg "tuple" = none
  zlist : mg "list" = none
  zzip : mg "zip" = none
  zlen : mg "len" = none
theorem boot_tuple : bootBuiltins "tuple" = some (.type "tuple") := by decide +kernel
section
variable {P : Program} {w : World} {K : PySem.W.Frag} {mg : Str → Option Value} {base : Heap}
abbrev sParts : Stmt := topS 4
theorem scParts : FnScope ["kind"] ["kind"] (defScope sParts) := ⟨rfl, rfl, rfl, by decide +kernel, rfl, by decide +kernel, by decide +kernel⟩
def spParts (K : PySem.W.Frag) : Sp := fun vs H Q _ => ∃ (v : V) (k : Kd), vs = [v] ∧ k.At H v ∧ ∀ (b : Addr) (xs : List V) (H' : Hp), Same H H' → H' b = some (.tup xs) → Kd.Ats H' k.parts xs → Q (.ref b) H'
theorem c_parts {f : Addr} {fd : FuncData} (F : Fun K "kind_parts" "kind_parts" sParts f fd) (b : Binds K fd ["kind"] []) (hm : mg "kind_parts" = some (.ref f)) : C8.Cal P w K mg base 1 "kind_parts" (spParts K) [] := by
  refine cal_of F hm b scParts (fun vs H Q E h => ?_) (fun cdv A outer s H vs Q E hr h => ?_)
  · obtain ⟨v, k, rfl, _⟩ := h
    rfl
  obtain ⟨v, k, rfl, hd, q⟩ := h
  refine ⟨_, (pss_cons (ps_if (pt_cmpR op_eq (pe_ix ix_tup (pv 0) pe_int (fun _ _ => rfl)) pe_str (nomark _))
      (pss_one (ps_ret (pe_ix ix_tup (pv 0) pe_int (fun _ _ => rfl))))
      pss_nil)
    (pss_cons (ps_if (pt_cmpR op_eq (pe_ix ix_tup (pv 0) pe_int (fun _ _ => rfl)) pe_str (nomark _))
      (pss_one (ps_ret (pe_slice sl_tupA (pv 0) (po_some pe_int) po_none)))
      pss_nil)
    (pss_one (ps_ret (pe_tup pa_nil))))), ?_⟩
  have e1 : decide (V.str ("name" : Str) = V.str "con") = false := by decide +kernel
  have e2 : decide (V.str ("name" : Str) = V.str "fun") = false := by decide +kernel
  have e3 : decide (V.str ("meta" : Str) = V.str "con") = false := by decide +kernel
  have e4 : decide (V.str ("meta" : Str) = V.str "fun") = false := by decide +kernel
  have e5 : decide (V.str ("fun" : Str) = V.str "con") = false := by decide +kernel
  have e6 : decide (V.str ("fun" : Str) = V.str "fun") = true := by decide +kernel
  have e7 : decide (V.str ("con" : Str) = V.str "con") = true := by decide +kernel
  cases k with
  | nm s =>
    obtain ⟨a, rfl, hs⟩ := hd
    refine ⟨_, rfl, a, _, 0, _, rfl, rfl, SqT.of hs, rfl, rfl, _, rfl, ?_⟩
    rw [e1]
    refine iteF ?_
    refine ⟨_, rfl, a, _, 0, _, rfl, rfl, SqT.of hs, rfl, rfl, _, rfl, ?_⟩
    rw [e2]
    refine iteF ?_
    exact ⟨(by show 0 ≤ sizeLine; decide), fun t ht => q t [] _ (same_new ht _) upd_same rfl⟩
  | mt i =>
    obtain ⟨a, rfl, hs⟩ := hd
    refine ⟨_, rfl, a, _, 0, _, rfl, rfl, SqT.of hs, rfl, rfl, _, rfl, ?_⟩
    rw [e3]
    refine iteF ?_
    refine ⟨_, rfl, a, _, 0, _, rfl, rfl, SqT.of hs, rfl, rfl, _, rfl, ?_⟩
    rw [e4]
    refine iteF ?_
    exact ⟨(by show 0 ≤ sizeLine; decide), fun t ht => q t [] _ (same_new ht _) upd_same rfl⟩
  | fn m n =>
    obtain ⟨a, x, y, rfl, hs, hx, hy⟩ := hd
    refine ⟨_, rfl, a, _, 0, _, rfl, rfl, SqT.of hs, rfl, rfl, _, rfl, ?_⟩
    rw [e5]
    refine iteF ?_
    refine ⟨_, rfl, a, _, 0, _, rfl, rfl, SqT.of hs, rfl, rfl, _, rfl, ?_⟩
    rw [e6]
    refine iteT ?_
    refine ⟨_, rfl, 1, rfl, a, _, rfl, SqT.of hs, fun z => ?_, fun _ t ht => ?_⟩
    · exact absurd z.1 (by show ¬ HT.sIx 3 0 (some 1) = 0; decide)
    · have s1 : TK H (upd H t (.tup [x, y])) := tk_new ht
      exact q t [x, y] _ (same_new ht _) upd_same ⟨x, [y], rfl, hx.keep s1, y, [], rfl, hy.keep s1, rfl⟩
  | cn s l =>
    obtain ⟨a, b2, xs, rfl, hs, hb, hr2⟩ := hd
    refine ⟨_, rfl, a, _, 0, _, rfl, rfl, SqT.of hs, rfl, rfl, _, rfl, ?_⟩
    rw [e7]
    refine iteT ?_
    exact ⟨_, rfl, a, _, 2, _, rfl, rfl, SqT.of hs, rfl, q b2 xs H (fun _ _ h => h) hb hr2⟩
abbrev sAlike : Stmt := topS 7
theorem scAlike : FnScope ["one", "other"] ["one", "other"] (defScope sAlike) := ⟨rfl, rfl, rfl, by decide +kernel, rfl, by decide +kernel, by decide +kernel⟩
def spAlike : Sp := fun vs H Q _ => ∃ (v u : V) (k m : Kd), vs = [v, u] ∧ k.At H v ∧ m.At H u ∧ ∀ (H' : Hp), Same H H' → Q (.bl (k.alike m)) H'
theorem c_alike {f : Addr} {fd : FuncData} (T : TxtT mg) (ckind_parts : C8.Cal P w K mg base 1 "kind_parts" (spParts K) []) (F : Fun K "alike" "alike" sAlike f fd) (b : Binds K fd ["one", "other"] []) (hm : mg "alike" = some (.ref f)) : C8.Cal P w K mg base 2 "alike" spAlike [] := by
  refine cal_of F hm b scAlike (fun vs H Q E h => ?_) (fun cdv A outer s H vs Q E hr h => ?_)
  · obtain ⟨v, u, k, m, rfl, _⟩ := h
    rfl
  obtain ⟨v, u, k, m, rfl, hv, hu, q⟩ := h
  refine ⟨_, (pss_cons (ps_if (PW.pt (pw_or (pt_cmpR op_ne (pe_ix ix_tup (pv 0) pe_int (fun _ _ => rfl)) (pe_ix ix_tup (pv 1) pe_int (fun _ _ => rfl)) (nomark _)) (pw_or1 (pt_cmpR op_ne (pe_callB call_len_seq rfl T.zlen PySem.boot_len (pa_cons (C8.pe_c ckind_parts hr (by decide) rfl (pa_cons (pv 0) pa_nil)) pa_nil)) (pe_callB call_len_seq rfl T.zlen PySem.boot_len (pa_cons (C8.pe_c ckind_parts hr (by decide) rfl (pa_cons (pv 1) pa_nil)) pa_nil)) (nomark _)))))
      (pss_one (ps_ret pe_bl))
      pss_nil)
    (pss_one (ps_ret (pe_or (pe_cmpR op_eq (pe_ix ix_tup (pv 0) pe_int (fun _ _ => rfl)) pe_str (nomark _)) (pe_one (pe_cmpR op_eq (pe_ix ix_tup (pv 0) pe_int (fun _ _ => rfl)) (pe_ix ix_tup (pv 1) pe_int (fun _ _ => rfl)) (nomark _))))))), ?_⟩
  obtain ⟨a, xs, rfl, ha⟩ := hv.tup
  obtain ⟨c, ys, rfl, hc⟩ := hu.tup
  refine ⟨_, rfl, a, _, 0, .str k.word, rfl, rfl, SqT.of ha, at0 _ _, _, rfl, c, _, 0, .str m.word, rfl, rfl, SqT.of hc, at0 _ _, rfl, _, rfl, ?_⟩
  by_cases hw : k.word = m.word
  · have z : (!decide (V.str k.word = V.str m.word)) = false := by rw [hw]; simp
    show if (!decide (V.str k.word = V.str m.word)) = true then _ else _
    rw [z]
    refine iteF ?_
    refine ⟨_, rfl, _, k, rfl, hv, fun b1 xs1 H1 s1 hb1 ats1 => ?_⟩
    refine ⟨b1, xs1, rfl, .inr (SqT.of hb1), ?_⟩
    refine ⟨_, rfl, _, m, rfl, hu.keep (tk_same s1), fun b2 xs2 H2 s2 hb2 ats2 => ?_⟩
    refine ⟨b2, xs2, rfl, .inr (SqT.of hb2), ?_⟩
    have s3 : Same H H2 := fun b o e => s2 _ _ (s1 _ _ e)
    refine ⟨rfl, _, rfl, ?_⟩
    have z2 : (!decide (V.int (xs1.length : Int) = V.int (xs2.length : Int))) = !decide (k.parts.length = m.parts.length) := by
      rw [dec_int, ats1.len, ats2.len]
      congr 1
      rw [Bool.eq_iff_iff, beq_iff_eq, decide_eq_true_eq]
      omega
    show if (!decide (V.int (xs1.length : Int) = V.int (xs2.length : Int))) = true then _ else _
    rw [z2]
    by_cases hl : k.parts.length = m.parts.length
    · have z3 : (!decide (k.parts.length = m.parts.length)) = false := by rw [hl]; simp
      rw [z3]
      refine iteF ?_
      refine ⟨_, rfl, a, _, 0, .str k.word, rfl, rfl, SqT.of (s3 _ _ ha), at0 _ _, rfl, _, rfl, ?_⟩
      have last : ∀ (k m : Kd), k.word = m.word → k.parts.length = m.parts.length → k.At H (.ref a) → m.At H (.ref c) → (k.word = "fun" ∧ k.alike m = true) ∨ (k.word ≠ "fun" ∧ ∃ (x y : V), atI [x] 0 = some x ∧ (∃ r, H a = some (.tup (.str k.word :: x :: r))) ∧ (∃ r, H c = some (.tup (.str m.word :: y :: r))) ∧ scal x y = true ∧ decide (x = y) = k.alike m) := fun k m hw hl hk hm => by
        cases k with
        | nm s =>
          cases m with
          | nm t =>
            obtain ⟨_, e1, h1⟩ := hk
            cases e1
            obtain ⟨_, e2, h2⟩ := hm
            cases e2
            refine .inr ⟨Kd.word_fun (by simp [Kd.tag]), .str s, .str t, rfl, ⟨_, h1⟩, ⟨_, h2⟩, rfl, ?_⟩
            show _ = (s == t)
            rw [Bool.eq_iff_iff, beq_iff_eq, decide_eq_true_eq]
            exact ⟨fun e => by cases e; rfl, fun e => by rw [e]⟩
          | _ => exact absurd (Kd.word_tag hw) (by simp [Kd.tag])
        | mt i =>
          cases m with
          | mt j =>
            obtain ⟨_, e1, h1⟩ := hk
            cases e1
            obtain ⟨_, e2, h2⟩ := hm
            cases e2
            exact .inr ⟨Kd.word_fun (by simp [Kd.tag]), .int i, .int j, rfl, ⟨_, h1⟩, ⟨_, h2⟩, rfl, dec_int⟩
          | _ => exact absurd (Kd.word_tag hw) (by simp [Kd.tag])
        | fn p q =>
          cases m with
          | fn p2 q2 => exact .inl ⟨rfl, rfl⟩
          | _ => exact absurd (Kd.word_tag hw) (by simp [Kd.tag])
        | cn s l =>
          cases m with
          | cn t n =>
            obtain ⟨_, _, _, e1, h1, _⟩ := hk
            cases e1
            obtain ⟨_, _, _, e2, h2, _⟩ := hm
            cases e2
            refine .inr ⟨Kd.word_fun (by simp [Kd.tag]), .str s, .str t, rfl, ⟨_, h1⟩, ⟨_, h2⟩, rfl, ?_⟩
            show _ = (l.length == n.length && s == t)
            rw [show (l.length == n.length) = true from by rw [beq_iff_eq]; exact hl, Bool.true_and, Bool.eq_iff_iff, beq_iff_eq, decide_eq_true_eq]
            exact ⟨fun e => by cases e; rfl, fun e => by rw [e]⟩
          | _ => exact absurd (Kd.word_tag hw) (by simp [Kd.tag])
      rcases last k m hw hl hv hu with ⟨e1, e2⟩ | ⟨e1, x, y, _, ⟨r1, h1⟩, ⟨r2, h2⟩, e3, e4⟩
      · have z4 : decide (V.str k.word = V.str "fun") = true := by rw [e1]; exact decide_eq_true rfl
        show if decide (V.str k.word = V.str "fun") = true then _ else _
        rw [z4]
        refine iteT ?_
        rw [← e2]
        exact q H2 s3
      · have z4 : decide (V.str k.word = V.str "fun") = false := decide_eq_false (fun z => e1 (V.str.inj z))
        show if decide (V.str k.word = V.str "fun") = true then _ else _
        rw [z4]
        refine iteF ?_
        refine ⟨_, rfl, a, _, 1, x, rfl, rfl, SqT.of (s3 _ _ h1), at1 _ _ _, _, rfl, c, _, 1, y, rfl, rfl, SqT.of (s3 _ _ h2), at1 _ _ _, e3, ?_⟩
        show Q (.bl (decide (x = y))) H2
        rw [e4]
        exact q H2 s3
    · have z3 : (!decide (k.parts.length = m.parts.length)) = true := by rw [decide_eq_false hl]; rfl
      rw [z3]
      refine iteT ?_
      have no : k.alike m = false := Kd.alike_len hl
      show Q (.bl false) H2
      rw [← no]
      exact q H2 s3
  · have z : (!decide (V.str k.word = V.str m.word)) = true := by
      rw [decide_eq_false (fun e => hw (V.str.inj e))]
      rfl
    show if (!decide (V.str k.word = V.str m.word)) = true then _ else _
    rw [z]
    refine iteT (iteT ?_)
    show Q (.bl false) H
    rw [← Kd.alike_word (show (k.word == m.word) = false from beq_eq_false_iff_ne.mpr hw)]
    exact q H fun _ _ e => e
end
end Toy

set_option Elab.async false
set_option linter.all false
set_option maxRecDepth 100000
set_option maxHeartbeats 4000000
/-! Part N: metas and what they are known to be, in plain Lean. -/
namespace Toy
open PySem L2
mutual
/-- types in the place of metas, all at once -/
def Kd.ms (f : Int → Kd) : Kd → Kd
  | .nm s => .nm s
  | .mt i => f i
  | .fn a b => .fn (a.ms f) (b.ms f)
  | .cn s l => .cn s (Kd.mss f l)
def Kd.mss (f : Int → Kd) : List Kd → List Kd
  | [] => []
  | k :: l => k.ms f :: Kd.mss f l
end
mutual
/-- a meta stands in a type -/
def Kd.hasM (m : Int) : Kd → Prop
  | .nm _ => False
  | .mt i => i = m
  | .fn a b => a.hasM m ∨ b.hasM m
  | .cn _ l => Kd.hasMs m l
def Kd.hasMs (m : Int) : List Kd → Prop
  | [] => False
  | k :: l => k.hasM m ∨ Kd.hasMs m l
end
mutual
theorem ms_congr {f g : Int → Kd} : ∀ k : Kd, (∀ m, k.hasM m → f m = g m) → k.ms f = k.ms g
  | .nm s, _ => rfl
  | .mt i, h => h i rfl
  | .fn a b, h => by
    show Kd.fn (a.ms f) (b.ms f) = Kd.fn (a.ms g) (b.ms g)
    rw [ms_congr a fun m hm => h m (.inl hm), ms_congr b fun m hm => h m (.inr hm)]
  | .cn s l, h => by
    show Kd.cn s (Kd.mss f l) = Kd.cn s (Kd.mss g l)
    rw [mss_congr l h]
theorem mss_congr {f g : Int → Kd} : ∀ l : List Kd, (∀ m, Kd.hasMs m l → f m = g m) → Kd.mss f l = Kd.mss g l
  | [], _ => rfl
  | k :: l, h => by
    show k.ms f :: Kd.mss f l = k.ms g :: Kd.mss g l
    rw [ms_congr k fun m hm => h m (.inl hm), mss_congr l fun m hm => h m (.inr hm)]
end
mutual
theorem ms_ms (f g : Int → Kd) : ∀ k : Kd, (k.ms f).ms g = k.ms fun m => (f m).ms g
  | .nm s => rfl
  | .mt i => rfl
  | .fn a b => by
    show Kd.fn ((a.ms f).ms g) ((b.ms f).ms g) = _
    rw [ms_ms f g a, ms_ms f g b]
    rfl
  | .cn s l => by
    show Kd.cn s (Kd.mss g (Kd.mss f l)) = _
    rw [mss_mss f g l]
    rfl
theorem mss_mss (f g : Int → Kd) : ∀ l : List Kd, Kd.mss g (Kd.mss f l) = Kd.mss (fun m => (f m).ms g) l
  | [] => rfl
  | k :: l => by
    show (k.ms f).ms g :: Kd.mss g (Kd.mss f l) = _
    rw [ms_ms f g k, mss_mss f g l]
    rfl
end
mutual
theorem ms_id : ∀ k : Kd, k.ms Kd.mt = k
  | .nm s => rfl
  | .mt i => rfl
  | .fn a b => by
    show Kd.fn (a.ms Kd.mt) (b.ms Kd.mt) = _
    rw [ms_id a, ms_id b]
  | .cn s l => by
    show Kd.cn s (Kd.mss Kd.mt l) = _
    rw [mss_id l]
theorem mss_id : ∀ l : List Kd, Kd.mss Kd.mt l = l
  | [] => rfl
  | k :: l => by
    show k.ms Kd.mt :: Kd.mss Kd.mt l = _
    rw [ms_id k, mss_id l]
end
mutual
/-- where nothing changes, each meta stays -/
theorem ms_fix {f : Int → Kd} : ∀ k : Kd, k.ms f = k → ∀ m, k.hasM m → f m = .mt m
  | .nm s, _, m, h => h.elim
  | .mt i, e, m, h => by
    have h : i = m := h
    rw [← h]; exact e
  | .fn a b, e, m, h => by
    have e : Kd.fn (a.ms f) (b.ms f) = Kd.fn a b := e
    injection e with e1 e2
    exact h.elim (ms_fix a e1 m) (ms_fix b e2 m)
  | .cn s l, e, m, h => by
    have e : Kd.cn s (Kd.mss f l) = Kd.cn s l := e
    injection e with _ e2
    exact mss_fix l e2 m h
theorem mss_fix {f : Int → Kd} : ∀ l : List Kd, Kd.mss f l = l → ∀ m, Kd.hasMs m l → f m = .mt m
  | [], _, m, h => h.elim
  | k :: l, e, m, h => by
    have e : k.ms f :: Kd.mss f l = k :: l := e
    injection e with e1 e2
    exact h.elim (ms_fix k e1 m) (mss_fix l e2 m)
end
mutual
theorem has_ms {f : Int → Kd} {x : Int} : ∀ k : Kd, (k.ms f).hasM x ↔ ∃ m, k.hasM m ∧ (f m).hasM x
  | .nm s => ⟨fun h => (show False from h).elim, fun ⟨_, h, _⟩ => (show False from h).elim⟩
  | .mt i => ⟨fun h => ⟨i, rfl, h⟩, fun ⟨m, h, k⟩ => by
    have h : i = m := h
    rw [← h] at k; exact k⟩
  | .fn a b => by
    show (a.ms f).hasM x ∨ (b.ms f).hasM x ↔ ∃ m, (a.hasM m ∨ b.hasM m) ∧ (f m).hasM x
    rw [has_ms a, has_ms b]
    exact ⟨fun h => h.elim (fun ⟨m, h1, h2⟩ => ⟨m, .inl h1, h2⟩) fun ⟨m, h1, h2⟩ => ⟨m, .inr h1, h2⟩, fun ⟨m, h1, h2⟩ => h1.elim (fun z => .inl ⟨m, z, h2⟩) fun z => .inr ⟨m, z, h2⟩⟩
  | .cn s l => has_mss l
theorem has_mss {f : Int → Kd} {x : Int} : ∀ l : List Kd, Kd.hasMs x (Kd.mss f l) ↔ ∃ m, Kd.hasMs m l ∧ (f m).hasM x
  | [] => ⟨fun h => (show False from h).elim, fun ⟨_, h, _⟩ => (show False from h).elim⟩
  | k :: l => by
    show (k.ms f).hasM x ∨ Kd.hasMs x (Kd.mss f l) ↔ ∃ m, (k.hasM m ∨ Kd.hasMs m l) ∧ (f m).hasM x
    rw [has_ms k, has_mss l]
    exact ⟨fun h => h.elim (fun ⟨m, h1, h2⟩ => ⟨m, .inl h1, h2⟩) fun ⟨m, h1, h2⟩ => ⟨m, .inr h1, h2⟩, fun ⟨m, h1, h2⟩ => h1.elim (fun z => .inl ⟨m, z, h2⟩) fun z => .inr ⟨m, z, h2⟩⟩
end
theorem size_pos (k : Kd) : 1 ≤ k.size := by
  have := Kd.size_parts k
  omega
mutual
theorem ms_size (f : Int → Kd) : ∀ k : Kd, k.size ≤ (k.ms f).size
  | .nm s => Nat.le_refl _
  | .mt i => size_pos _
  | .fn a b => by
    have h1 := ms_size f a
    have h2 := ms_size f b
    show 1 + a.size + b.size ≤ 1 + (a.ms f).size + (b.ms f).size
    omega
  | .cn s l => by
    have h1 := mss_size f l
    show 1 + Kd.sizes l ≤ 1 + Kd.sizes (Kd.mss f l)
    omega
theorem mss_size (f : Int → Kd) : ∀ l : List Kd, Kd.sizes l ≤ Kd.sizes (Kd.mss f l)
  | [] => Nat.le_refl _
  | k :: l => by
    have h1 := ms_size f k
    have h2 := mss_size f l
    show k.size + Kd.sizes l ≤ (k.ms f).size + Kd.sizes (Kd.mss f l)
    omega
end
mutual
theorem has_size {f : Int → Kd} {m : Int} : ∀ k : Kd, k.hasM m → (f m).size ≤ (k.ms f).size
  | .nm s, h => (show False from h).elim
  | .mt i, h => by
    have h : i = m := h
    rw [← h]; exact Nat.le_refl _
  | .fn a b, h => by
    show (f m).size ≤ 1 + (a.ms f).size + (b.ms f).size
    rcases (show a.hasM m ∨ b.hasM m from h) with z | z
    · have := has_size (f := f) a z
      omega
    · have := has_size (f := f) b z
      omega
  | .cn s l, h => by
    have := has_sizes (f := f) l (show Kd.hasMs m l from h)
    show (f m).size ≤ 1 + Kd.sizes (Kd.mss f l)
    omega
theorem has_sizes {f : Int → Kd} {m : Int} : ∀ l : List Kd, Kd.hasMs m l → (f m).size ≤ Kd.sizes (Kd.mss f l)
  | [], h => (show False from h).elim
  | k :: l, h => by
    show (f m).size ≤ (k.ms f).size + Kd.sizes (Kd.mss f l)
    rcases (show k.hasM m ∨ Kd.hasMs m l from h) with z | z
    · have := has_size (f := f) k z
      omega
    · have := has_sizes (f := f) l z
      omega
end
/-- a meta within a type that is more than it: the type is larger -/
theorem has_less {f : Int → Kd} {m : Int} : ∀ k : Kd, (∀ i, k ≠ .mt i) → k.hasM m → (f m).size < (k.ms f).size
  | .nm s, _, h => (show False from h).elim
  | .mt i, n, _ => (n i rfl).elim
  | .fn a b, _, h => by
    show (f m).size < 1 + (a.ms f).size + (b.ms f).size
    rcases (show a.hasM m ∨ b.hasM m from h) with z | z
    · have := has_size (f := f) a z
      omega
    · have := has_size (f := f) b z
      omega
  | .cn s l, _, h => by
    have := has_sizes (f := f) l (show Kd.hasMs m l from h)
    show (f m).size < 1 + Kd.sizes (Kd.mss f l)
    omega
mutual
/-- how long it takes to work a type off, its metas counted by u -/
def Kd.cost (u : Int → Nat) : Kd → Nat
  | .nm _ => 2
  | .mt i => 2 + u i
  | .fn a b => 2 + a.cost u + b.cost u
  | .cn _ l => 2 + Kd.costs u l
def Kd.costs (u : Int → Nat) : List Kd → Nat
  | [] => 0
  | k :: l => k.cost u + Kd.costs u l
end
mutual
/-- how often a meta stands in a type -/
def Kd.cnt (m : Int) : Kd → Nat
  | .nm _ => 0
  | .mt i => if i = m then 1 else 0
  | .fn a b => a.cnt m + b.cnt m
  | .cn _ l => Kd.cnts m l
def Kd.cnts (m : Int) : List Kd → Nat
  | [] => 0
  | k :: l => k.cnt m + Kd.cnts m l
end
mutual
theorem cnt_zero {m : Int} : ∀ k : Kd, ¬ k.hasM m → k.cnt m = 0
  | .nm s, _ => rfl
  | .mt i, h => if_neg h
  | .fn a b, h => by
    show a.cnt m + b.cnt m = 0
    rw [cnt_zero a fun z => h (.inl z), cnt_zero b fun z => h (.inr z)]
  | .cn s l, h => cnts_zero l h
theorem cnts_zero {m : Int} : ∀ l : List Kd, ¬ Kd.hasMs m l → Kd.cnts m l = 0
  | [], _ => rfl
  | k :: l, h => by
    show k.cnt m + Kd.cnts m l = 0
    rw [cnt_zero k fun z => h (.inl z), cnts_zero l fun z => h (.inr z)]
end
mutual
theorem cost_add (u : Int → Nat) (f : Int → Kd) (m : Int) (B : Nat) : ∀ k : Kd, k.cost (fun x => u x + B * (f x).cnt m) = k.cost u + B * (k.ms f).cnt m
  | .nm s => rfl
  | .mt i => by
    show 2 + (u i + B * (f i).cnt m) = 2 + u i + B * (f i).cnt m
    omega
  | .fn a b => by
    show 2 + a.cost _ + b.cost _ = 2 + a.cost u + b.cost u + B * ((a.ms f).cnt m + (b.ms f).cnt m)
    rw [cost_add u f m B a, cost_add u f m B b, Nat.mul_add]
    omega
  | .cn s l => by
    show 2 + Kd.costs _ l = 2 + Kd.costs u l + B * Kd.cnts m (Kd.mss f l)
    rw [costs_add u f m B l]
    omega
theorem costs_add (u : Int → Nat) (f : Int → Kd) (m : Int) (B : Nat) : ∀ l : List Kd, Kd.costs (fun x => u x + B * (f x).cnt m) l = Kd.costs u l + B * Kd.cnts m (Kd.mss f l)
  | [] => rfl
  | k :: l => by
    show k.cost _ + Kd.costs _ l = k.cost u + Kd.costs u l + B * ((k.ms f).cnt m + Kd.cnts m (Kd.mss f l))
    rw [cost_add u f m B k, costs_add u f m B l, Nat.mul_add]
    omega
end
/-- what is known of the metas -/
abbrev Kn := List (Int × Kd)
def Solves' (S : Int → Kd) (κ : Kn) : Prop := ∀ q ∈ κ, S q.1 = q.2.ms S
/-- what is known is of one kind with θ: R tells what each meta comes down to, u how long that takes -/
structure Uni (θ R : Int → Kd) (u : Int → Nat) (κ : Kn) : Prop where
  solves : Solves' R κ
  opn : ∀ m, (∀ q ∈ κ, q.1 ≠ m) → R m = .mt m
  sound : ∀ m, θ m = (R m).ms θ
  idem : ∀ m, (R m).ms R = R m
  cost : ∀ q ∈ κ, 1 + q.2.cost u ≤ u q.1
  nodup : (κ.map (·.1)).Nodup
theorem uni_start (θ : Int → Kd) : Uni θ Kd.mt (fun _ => 0) [] := ⟨fun q h => (by cases h), fun m _ => rfl, fun m => rfl, fun m => rfl, fun q h => (by cases h), List.nodup_nil⟩
theorem Uni.resound {θ R : Int → Kd} {u : Int → Nat} {κ : Kn} (h : Uni θ R u κ) (k : Kd) : (k.ms R).ms θ = k.ms θ := by
  rw [ms_ms]
  exact ms_congr k fun m _ => (h.sound m).symm
theorem Uni.reidem {θ R : Int → Kd} {u : Int → Nat} {κ : Kn} (h : Uni θ R u κ) (k : Kd) : (k.ms R).ms R = k.ms R := by
  rw [ms_ms]
  exact ms_congr k fun m _ => h.idem m
/-- an open meta is not within what a type comes down to, if both are one for θ -/
theorem Uni.outside {θ R : Int → Kd} {u : Int → Nat} {κ : Kn} {m : Int} {t : Kd} (h : Uni θ R u κ) (e : θ m = t.ms θ) (n : ∀ i, t = .mt i → i ≠ m ∧ ∀ q ∈ κ, q.1 ≠ i) : ¬ (t.ms R).hasM m := fun z => by
  by_cases hm : ∃ i, t = .mt i
  · obtain ⟨i, rfl⟩ := hm
    obtain ⟨n1, n2⟩ := n i rfl
    have z : (R i).hasM m := z
    rw [h.opn i n2] at z
    exact n1 z
  · have e1 : (t.ms R).ms θ = θ m := by rw [h.resound t, e]
    have nm : ∀ i, t.ms R ≠ .mt i := fun i e2 => by
      cases t with
      | mt j => exact hm ⟨j, rfl⟩
      | nm s => cases e2
      | fn a b => cases e2
      | cn s l => cases e2
    have z2 := has_less (f := θ) (t.ms R) nm z
    rw [e1] at z2
    omega
/-- one more is known -/
theorem Uni.add {θ R : Int → Kd} {u : Int → Nat} {κ : Kn} {m : Int} {t : Kd} (h : Uni θ R u κ) (e : θ m = t.ms θ) (op : ∀ q ∈ κ, q.1 ≠ m) (out : ¬ (t.ms R).hasM m) :
    ∃ R' u', Uni θ R' u' (κ ++ [(m, t)]) := by
  let δ : Int → Kd := fun x => if x = m then t.ms R else .mt x
  have δm : δ m = t.ms R := if_pos rfl
  have δn : ∀ x, x ≠ m → δ x = .mt x := fun x hx => if_neg hx
  have tδ : (t.ms R).ms δ = t.ms R := by
    have z : (t.ms R).ms δ = (t.ms R).ms Kd.mt := ms_congr _ fun x hx => δn x fun q => out (q ▸ hx)
    rw [z, ms_id]
  have Rm : R m = .mt m := h.opn m op
  have key : ∀ k : Kd, (k.ms fun x => (R x).ms δ) = (k.ms R).ms δ := fun k => (ms_ms R δ k).symm
  have rm : (R m).ms δ = t.ms R := by
    rw [Rm]
    exact δm
  refine ⟨fun x => (R x).ms δ, fun x => u x + (1 + t.cost u) * (R x).cnt m, ⟨fun q hq => ?_, fun x hx => ?_, fun x => ?_, fun x => ?_, fun q hq => ?_, ?_⟩⟩
  · rcases List.mem_append.mp hq with hq | hq
    · show (R q.1).ms δ = q.2.ms fun x => (R x).ms δ
      rw [h.solves q hq, key]
    · rw [List.mem_singleton.mp hq]
      show (R m).ms δ = t.ms fun x => (R x).ms δ
      rw [rm, key, tδ]
  · have ne : x ≠ m := fun z => hx (m, t) (List.mem_append_right _ (List.mem_singleton.mpr rfl)) z.symm
    show (R x).ms δ = .mt x
    rw [h.opn x fun q hq => hx q (List.mem_append_left _ hq)]
    exact δn x ne
  · show θ x = ((R x).ms δ).ms θ
    rw [ms_ms]
    have z : ((R x).ms fun y => (δ y).ms θ) = (R x).ms θ := ms_congr _ fun y _ => by
      by_cases hy : y = m
      · rw [hy, δm, h.resound t, e]
      · rw [δn y hy]
        rfl
    rw [z]
    exact h.sound x
  · show ((R x).ms δ).ms (fun y => (R y).ms δ) = (R x).ms δ
    rw [key, ms_ms, ms_ms]
    refine ms_congr _ fun y hy => ?_
    by_cases hym : y = m
    · rw [hym, δm, key, h.reidem t, tδ]
    · rw [δn y hym]
      show (R y).ms δ = .mt y
      rw [ms_fix (R x) (h.idem x) y hy]
      exact δn y hym
  · rcases List.mem_append.mp hq with hq | hq
    · rw [cost_add]
      have z := h.cost q hq
      have z2 := h.solves q hq
      show 1 + (q.2.cost u + (1 + t.cost u) * (q.2.ms R).cnt m) ≤ u q.1 + (1 + t.cost u) * (R q.1).cnt m
      rw [z2]
      omega
    · rw [List.mem_singleton.mp hq]
      show 1 + t.cost _ ≤ u m + (1 + t.cost u) * (R m).cnt m
      rw [cost_add, cnt_zero _ out, Rm]
      have z : (Kd.mt m).cnt m = 1 := if_pos rfl
      rw [z]
      omega
  · rw [List.map_append]
    exact List.nodup_append.mpr ⟨h.nodup, List.pairwise_singleton _ _, fun a ha b hb z => by
      obtain ⟨q, hq, e2⟩ := List.mem_map.mp ha
      rw [List.mem_singleton.mp hb] at z
      exact op q hq (e2.trans z)⟩
end Toy

set_option Elab.async false
set_option linter.all false
set_option maxRecDepth 100000
set_option maxHeartbeats 4000000
/-! Part D: types put in the place of names, with a list that is worked off. -/
namespace Toy
open PySem L2
open PyProof.Rows (envOfC)
theorem tYes_if {σ : L2.St} {H : Hp} {A B : Hp → Prop} (h : A H) : tYes σ H (fun b H3 => if b = true then A H3 else B H3) := by
  show if true = true then A H else B H
  rw [if_pos rfl]
  exact h
theorem boot_reversed : bootBuiltins "reversed" = some (.type "reversed") := by decide +kernel
theorem Kd.mss_map (f : Int → Kd) : ∀ l : List Kd, Kd.mss f l = l.map (Kd.ms f)
  | [] => rfl
  | k :: l => by rw [Kd.mss, List.map_cons, Kd.mss_map f l]
/-- other types directly in a type -/
def Kd.put : Kd → List Kd → Kd
  | .fn _ _, [a, b] => .fn a b
  | .cn s _, l => .cn s l
  | k, _ => k
theorem Kd.put_ms (f : Int → Kd) : ∀ k : Kd, k.parts ≠ [] → k.put (k.parts.map (Kd.ms f)) = k.ms f
  | .nm s, h => (h rfl).elim
  | .mt i, h => (h rfl).elim
  | .fn a b, _ => rfl
  | .cn s l, _ => by
    show Kd.cn s (l.map (Kd.ms f)) = Kd.cn s (Kd.mss f l)
    rw [Kd.mss_map]
/-- what comes of the tasks, the next one first -/
def fin (f : Int → Kd) : List Kd → List (Kd × Bool) → Option (List Kd)
  | done, [] => some done
  | done, (k, false) :: ts => fin f (done ++ [k.ms f]) ts
  | done, (k, true) :: ts => if k.parts.length ≤ done.length then fin f (done.take (done.length - k.parts.length) ++ [k.put (done.drop (done.length - k.parts.length))]) ts else none
theorem fin_parts (f : Int → Kd) : ∀ (l : List Kd) (done : List Kd) (ts : List (Kd × Bool)), fin f done (l.map (·, false) ++ ts) = fin f (done ++ l.map (Kd.ms f)) ts
  | [], done, ts => by rw [List.map_nil, List.map_nil, List.append_nil, List.nil_append]
  | k :: l, done, ts => by
    rw [List.map_cons, List.map_cons, List.cons_append, fin, fin_parts f l, List.append_assoc, List.singleton_append]
theorem fin_open (f : Int → Kd) (k : Kd) (h : k.parts ≠ []) (done : List Kd) (ts : List (Kd × Bool)) : fin f done (k.parts.map (·, false) ++ ((k, true) :: ts)) = fin f done ((k, false) :: ts) := by
  rw [fin_parts, fin, fin, List.length_append, List.length_map, if_pos (by omega), show done.length + k.parts.length - k.parts.length = done.length by omega, List.take_left', List.drop_left', Kd.put_ms f k h]
  · rfl
  · rfl
/-- weights of tasks -/
def wt (w : Kd → Nat) : Kd × Bool → Nat
  | (k, false) => w k
  | (_, true) => 1
def wts (w : Kd → Nat) : List (Kd × Bool) → Nat
  | [] => 0
  | t :: ts => wt w t + wts w ts
def wsum (w : Kd → Nat) : List Kd → Nat
  | [] => 0
  | k :: l => w k + wsum w l
theorem wts_app (w : Kd → Nat) : ∀ a b : List (Kd × Bool), wts w (a ++ b) = wts w a + wts w b
  | [], b => by rw [List.nil_append, wts, Nat.zero_add]
  | t :: a, b => by rw [List.cons_append, wts, wts, wts_app w a b, Nat.add_assoc]
theorem wts_parts (w : Kd → Nat) : ∀ l : List Kd, wts w (l.map (·, false)) = wsum w l
  | [] => rfl
  | k :: l => by
    rw [List.map_cons, wts, wts_parts w l, wsum]
    rfl
/-- the room that what comes of a type takes -/
def wR (R : Int → Kd) (k : Kd) : Nat := 2 * (k.ms R).size
theorem wsum_R (R : Int → Kd) : ∀ l : List Kd, wsum (wR R) l = 2 * Kd.sizes (Kd.mss R l)
  | [] => rfl
  | k :: l => by
    show 2 * (k.ms R).size + wsum (wR R) l = 2 * ((k.ms R).size + Kd.sizes (Kd.mss R l))
    rw [wsum_R R l]
    omega
theorem wR_parts (R : Int → Kd) : ∀ k : Kd, k.parts ≠ [] → wR R k = 2 + wsum (wR R) k.parts
  | .nm s, h => (h rfl).elim
  | .mt i, h => (h rfl).elim
  | .fn a b, _ => by
    show 2 * (1 + (a.ms R).size + (b.ms R).size) = 2 + (2 * (a.ms R).size + (2 * (b.ms R).size + 0))
    omega
  | .cn s l, _ => by
    show 2 * (1 + Kd.sizes (Kd.mss R l)) = 2 + wsum (wR R) l
    rw [wsum_R]
    omega
theorem wsum_cost (u : Int → Nat) : ∀ l : List Kd, wsum (Kd.cost u) l = Kd.costs u l
  | [] => rfl
  | k :: l => by rw [wsum, Kd.costs, wsum_cost u l]
theorem cost_parts (u : Int → Nat) : ∀ k : Kd, k.parts ≠ [] → k.cost u = 2 + wsum (Kd.cost u) k.parts
  | .nm s, h => (h rfl).elim
  | .mt i, h => (h rfl).elim
  | .fn a b, _ => by
    show 2 + a.cost u + b.cost u = 2 + (a.cost u + (b.cost u + 0))
    omega
  | .cn s l, _ => by
    show 2 + Kd.costs u l = 2 + wsum (Kd.cost u) l
    rw [wsum_cost]
theorem cost_pos (u : Int → Nat) : ∀ k : Kd, 2 ≤ k.cost u
  | .nm s => Nat.le_refl _
  | .mt i => Nat.le_add_right _ _
  | .fn a b => by show 2 ≤ 2 + _ + _; omega
  | .cn s l => by show 2 ≤ 2 + _; omega
theorem wR_pos (R : Int → Kd) (k : Kd) : 2 ≤ wR R k := by
  have := size_pos (k.ms R)
  show 2 ≤ 2 * _
  omega
theorem wts_len (R : Int → Kd) : ∀ l : List (Kd × Bool), l.length ≤ wts (wR R) l
  | [] => Nat.zero_le _
  | (k, false) :: l => by
    have h := wts_len R l
    have h2 := wR_pos R k
    rw [wts, List.length_cons]
    show _ ≤ wR R k + _
    omega
  | (k, true) :: l => by
    have h := wts_len R l
    rw [wts, List.length_cons]
    show _ ≤ 1 + _
    omega
theorem parts_len (R : Int → Kd) (k : Kd) (h : k.parts ≠ []) : k.parts.length + 1 ≤ (k.ms R).size := by
  have h1 := wR_parts R k h
  have h2 := wsum_R R k.parts
  have h3 := mss_size R k.parts
  have h4 := Kd.sizes_len k.parts
  have h5 : wR R k = 2 * (k.ms R).size := rfl
  omega
/-- a dict of what is known -/
def KnAt (H : Hp) : List (Key × V) → Kn → Prop
  | [], κ => κ = []
  | p :: kvs, κ => ∃ m t τ, κ = (m, t) :: τ ∧ p.1 = Sum.inl m ∧ t.At H p.2 ∧ KnAt H kvs τ
theorem KnAt.keep {H H' : Hp} (t : TK H H') : ∀ {kvs : List (Key × V)} {κ : Kn}, KnAt H kvs κ → KnAt H' kvs κ
  | [], _, h => h
  | p :: kvs, _, ⟨m, k, τ, e, h1, h2, h3⟩ => ⟨m, k, τ, e, h1, h2.keep t, KnAt.keep t h3⟩
theorem KnAt.len {H : Hp} : ∀ {kvs : List (Key × V)} {κ : Kn}, KnAt H kvs κ → kvs.length = κ.length
  | [], _, h => by
    have e : _ = [] := h
    rw [e]
    rfl
  | p :: kvs, _, ⟨m, k, τ, e, h1, h2, h3⟩ => by rw [e, List.length_cons, List.length_cons, KnAt.len h3]
theorem KnAt.look {H : Hp} (m : Int) : ∀ {kvs : List (Key × V)} {κ : Kn}, KnAt H kvs κ → ((∀ q ∈ κ, q.1 ≠ m) ∧ valV kvs (Sum.inl m) = none) ∨ ∃ t v, (m, t) ∈ κ ∧ valV kvs (Sum.inl m) = some v ∧ t.At H v
  | [], _, h => by
    have e : _ = [] := h
    subst e
    exact .inl ⟨fun q hq => (by cases hq), rfl⟩
  | p :: kvs, _, ⟨i, k, τ, e, h1, h2, h3⟩ => by
    subst e
    by_cases z : i = m
    · subst z
      exact .inr ⟨k, p.2, List.mem_cons_self .., valV_pos h1, h2⟩
    · rw [valV_neg (fun q => z (Sum.inl.inj (h1.symm.trans q)))]
      rcases KnAt.look m h3 with ⟨g1, g2⟩ | ⟨t, v, g1, g2, g3⟩
      · exact .inl ⟨fun q hq => (List.mem_cons.mp hq).elim (fun w => by rw [w]; exact z) (g1 q), g2⟩
      · exact .inr ⟨t, v, List.mem_cons_of_mem _ g1, g2, g3⟩
theorem KnAt.add {H : Hp} {m : Int} {t : Kd} {v : V} (hm : t.At H v) : ∀ {kvs : List (Key × V)} {κ : Kn}, KnAt H kvs κ → KnAt H (kvs ++ [(Sum.inl m, v)]) (κ ++ [(m, t)])
  | [], _, h => by
    have e : _ = [] := h
    subst e
    exact ⟨m, t, [], rfl, rfl, hm, rfl⟩
  | p :: kvs, _, ⟨i, n, τ, e, h1, h2, h3⟩ => ⟨i, n, τ ++ [(m, t)], by rw [e]; rfl, h1, h2, KnAt.add hm h3⟩
/-- tasks stand at these addresses -/
def TasksAt (H : Hp) : List Addr → List (Kd × Bool) → Prop
  | [], ts => ts = []
  | a :: st, ts => ∃ k b x r, ts = (k, b) :: r ∧ H a = some (.tup [x, .bl b]) ∧ k.At H x ∧ (b = true → k.parts ≠ []) ∧ TasksAt H st r
theorem TasksAt.keep {H H' : Hp} (t : TK H H') : ∀ {st : List Addr} {ts : List (Kd × Bool)}, TasksAt H st ts → TasksAt H' st ts
  | [], _, h => h
  | a :: st, _, ⟨k, b, x, r, e, h1, h2, h3, h4⟩ => ⟨k, b, x, r, e, t _ _ h1, h2.keep t, h3, h4.keep t⟩
theorem TasksAt.len {H : Hp} : ∀ {st : List Addr} {ts : List (Kd × Bool)}, TasksAt H st ts → st.length = ts.length
  | [], _, h => by
    have e : _ = [] := h
    rw [e]
    rfl
  | a :: st, _, ⟨k, b, x, r, e, h1, h2, h3, h4⟩ => by rw [e, List.length_cons, List.length_cons, h4.len]
theorem TasksAt.app {H : Hp} : ∀ {st su : List Addr} {ts us : List (Kd × Bool)}, TasksAt H st ts → TasksAt H su us → TasksAt H (st ++ su) (ts ++ us)
  | [], _, _, _, h, k => by
    have e : _ = [] := h
    subst e
    exact k
  | a :: st, _, _, _, ⟨k, b, x, r, e, h1, h2, h3, h4⟩, g => by
    subst e
    exact ⟨k, b, x, _, rfl, h1, h2, h3, h4.app g⟩
theorem atsTake {H : Hp} : ∀ (n : Nat) {l : List Kd} {xs : List V}, Kd.Ats H l xs → Kd.Ats H (l.take n) (xs.take n)
  | 0, l, xs, _ => by rw [List.take_zero, List.take_zero]; rfl
  | n + 1, [], xs, h => by
    have e : xs = [] := h
    subst e
    rfl
  | n + 1, k :: l, xs, ⟨x, ys, e, h1, h2⟩ => by
    subst e
    exact ⟨x, _, rfl, h1, atsTake n h2⟩
theorem atsDrop {H : Hp} : ∀ (n : Nat) {l : List Kd} {xs : List V}, Kd.Ats H l xs → Kd.Ats H (l.drop n) (xs.drop n)
  | 0, l, xs, h => by rw [List.drop_zero, List.drop_zero]; exact h
  | n + 1, [], xs, h => by
    have e : xs = [] := h
    subst e
    rfl
  | n + 1, k :: l, xs, ⟨x, ys, e, h1, h2⟩ => by
    subst e
    exact atsDrop n h2
theorem atsRev {H : Hp} : ∀ {l : List Kd} {xs : List V}, Kd.Ats H l xs → Kd.Ats H l.reverse xs.reverse
  | [], xs, h => by
    have e : xs = [] := h
    subst e
    rfl
  | k :: l, xs, ⟨x, ys, e, h1, h2⟩ => by
    subst e
    rw [List.reverse_cons, List.reverse_cons]
    exact Kd.Ats.app (atsRev h2) ⟨x, [], rfl, h1, rfl⟩
theorem tasksRev {H : Hp} : ∀ {st : List Addr} {ts : List (Kd × Bool)}, TasksAt H st ts.reverse → TasksAt H st.reverse ts := by
  have go : ∀ {st : List Addr} {ts : List (Kd × Bool)}, TasksAt H st ts → TasksAt H st.reverse ts.reverse := by
    intro st
    induction st with
    | nil =>
      intro ts h
      have e : ts = [] := h
      subst e
      rfl
    | cons a st ih =>
      rintro ts ⟨k, b, x, r, e, h1, h2, h3, h4⟩
      subst e
      rw [List.reverse_cons, List.reverse_cons]
      exact TasksAt.app (ih h4) ⟨k, b, x, [], rfl, h1, h2, h3, rfl⟩
  intro st ts h
  have z := go h
  rwa [List.reverse_reverse] at z
theorem cutN {xs : List V} {n : Nat} (h : n ≤ xs.length) : cutV xs (some (n : Int)) none = xs.drop n := by
  unfold cutV
  rw [HT.sIx_nat, HT.sIx_none, Nat.min_eq_left h]
  exact List.take_of_length_le (by rw [List.length_drop]; omega)
/-- what a row of pairs puts in the place of names -/
theorem at2 (x y z : V) (l : List V) : atI (x :: y :: z :: l) 2 = some z := atI_nat (j := 2) rfl
section
variable {P : Program} {w : World} {K : PySem.W.Frag} {mg : Str → Option Value} {base : Heap}
abbrev sWith : Stmt := topS 6
theorem scWith : FnScope ["kind", "parts"] ["kind", "parts"] (defScope sWith) := ⟨rfl, rfl, rfl, by decide +kernel, rfl, by decide +kernel, by decide +kernel⟩
def spWith : Sp := fun vs H Q _ => ∃ (v : V) (pl : Addr) (k : Kd) (l : List Kd) (xs : List V), vs = [v, .ref pl] ∧ k.At H v ∧ H pl = some (.lst xs) ∧ Kd.Ats H l xs ∧ l.length = k.parts.length ∧ k.parts ≠ [] ∧ l.length ≤ 100000 ∧ ∀ (u : V) (H' : Hp), Same H H' → (k.put l).At H' u → Q u H'
theorem c_with {f : Addr} {fd : FuncData} (T : TxtT mg) (F : Fun K "_with_kind_parts" "_with_kind_parts" sWith f fd) (b : Binds K fd ["kind", "parts"] []) (hm : mg "_with_kind_parts" = some (.ref f)) : C8.Cal P w K mg base 1 "_with_kind_parts" spWith [] := by
  refine cal_of F hm b scWith (fun vs H Q E h => ?_) (fun cdv A outer s H vs Q E hr h => ?_)
  · obtain ⟨v, pl, k, l, xs, rfl, _⟩ := h
    rfl
  obtain ⟨v, pl, k, l, xs, rfl, hk, hpl, hats, hlen, hne, hsz, q⟩ := h
  refine ⟨_, (pss_cons (ps_if (pt_cmpR op_eq (pe_ix ix_tup (pv 0) pe_int (fun _ _ => rfl)) pe_str (nomark _))
      (pss_one (ps_ret (pe_tup (pa_cons pe_str (StX.pa_star (pv 1) pa_nil)))))
      pss_nil)
    (pss_one (ps_ret (pe_tup (pa_cons pe_str (pa_cons (pe_ix ix_tup (pv 0) pe_int (fun _ _ => rfl)) (pa_cons (pe_callTy call_tuple_of rfl T.ztuple boot_tuple (pa_cons (pv 1) pa_nil)) pa_nil))))))), ?_⟩
  have hxl := hats.len
  cases k with
  | nm s => exact (hne rfl).elim
  | mt i => exact (hne rfl).elim
  | fn k1 k2 =>
    obtain ⟨a, x, y, rfl, ha, _, _⟩ := hk
    refine ⟨_, rfl, a, _, 0, .str "fun", rfl, rfl, SqT.of ha, at0 _ _, rfl, _, rfl, ?_⟩
    show if decide (V.str "fun" = V.str "fun") = true then _ else _
    rw [show decide (V.str "fun" = V.str "fun") = true from decide_eq_true rfl]
    refine iteT ?_
    match l, hats, hlen with
    | [m1, m2], hats, _ =>
      obtain ⟨u1, _, rfl, g1, u2, _, rfl, g2, e⟩ := hats
      have e : _ = [] := e
      subst e
      refine ⟨_, rfl, pl, _, rfl, .inr (SqL.of hpl), (by show 3 ≤ sizeLine; decide), fun t ht => ?_⟩
      have t1 : TK H (upd H t (.tup [.str "fun", u1, u2])) := tk_new ht
      exact q _ _ (same_new ht _) ⟨t, u1, u2, rfl, upd_same, g1.keep t1, g2.keep t1⟩
    | [], _, h => cases h
    | [_], _, h => cases h
    | _ :: _ :: _ :: _, _, h => cases h
  | cn s m =>
    obtain ⟨a, c, ys, rfl, ha, _, _⟩ := hk
    refine ⟨_, rfl, a, _, 0, .str "con", rfl, rfl, SqT.of ha, at0 _ _, rfl, _, rfl, ?_⟩
    show if decide (V.str "con" = V.str "fun") = true then _ else _
    rw [show decide (V.str "con" = V.str "fun") = false from decide_eq_false fun e => absurd (V.str.inj e) (by decide +kernel)]
    refine iteF ?_
    refine ⟨_, rfl, a, _, 1, .str s, rfl, rfl, SqT.of ha, at1 _ _ _, _, rfl, pl, xs, rfl, .inl ⟨SqL.of hpl, fun p hp => ?_⟩⟩
    have t1 : TK H (upd H p (.tup xs)) := tk_new hp
    refine ⟨(by show 3 ≤ sizeLine; decide), fun t ht => ?_⟩
    have t2 : TK (upd H p (.tup xs)) (upd (upd H p (.tup xs)) t (.tup [.str "con", .str s, .ref p])) := tk_new ht
    exact q _ _ (fun b o e => same_new ht _ _ _ (same_new hp _ _ _ e)) ⟨t, p, xs, rfl, upd_same, t2 _ _ upd_same, hats.keep (t1.trans t2)⟩
abbrev sRepl : Stmt := topS 5
theorem scRepl : FnScope ["kind", "word", "types", "again", "done", "todo", "part", "ready", "below", "start", "inner"] ["kind", "word", "types", "again"] (defScope sRepl) := ⟨rfl, rfl, rfl, by decide +kernel, rfl, by decide +kernel, by decide +kernel⟩
def spRepl : Sp := fun vs H Q _ => ∃ (v : V) (tb : Addr) (k : Kd) (kvs : List (Key × V)) (κ : Kn) (θ R : Int → Kd) (uu : Int → Nat), vs = [v, .str "meta", .ref tb, .bl true] ∧ k.At H v ∧ (k.ms θ).size ≤ 20000 ∧ H tb = some (.dK kvs) ∧ KnAt H kvs κ ∧ Uni θ R uu κ ∧ ∀ (u : V) (H' : Hp), Same H H' → (k.ms R).At H' u → Q u H'
theorem c_repl {f : Addr} {fd : FuncData} (T : TxtT mg) (ckind_parts : C8.Cal P w K mg base 1 "kind_parts" (spParts K) []) (c_with_kind_parts : C8.Cal P w K mg base 1 "_with_kind_parts" spWith []) (F : Fun K "replace_leaves" "replace_leaves" sRepl f fd) (b : Binds K fd ["kind", "word", "types", "again"] []) (hm : mg "replace_leaves" = some (.ref f)) : C8.Cal P w K mg base 2 "replace_leaves" spRepl [] := by
  refine cal_of F hm b scRepl (fun vs H Q E h => ?_) (fun cdv A outer s H vs Q E hr h => ?_)
  · obtain ⟨v, tb, k, kvs, κ, θ, R, uu, rfl, _⟩ := h
    rfl
  obtain ⟨v, tb, k, kvs, κ, θ, R, uu, rfl, hk, hsz0, htb, hF, hU, q⟩ := h
  have hsz : (k.ms R).size ≤ 20000 := by
    have z := ms_size θ (k.ms R)
    rw [hU.resound] at z
    omega
  have hu := hu_of hr
  refine ⟨_, (pss_cons (ps_set (i := 4) scRepl.nd rfl (Or.inl rfl) (pe_lst pa_nil))
    (pss_cons (ps_set (i := 5) scRepl.nd rfl (Or.inl rfl) (pe_lst (pa_cons (pe_tup (pa_cons (pv 0) (pa_cons pe_bl pa_nil))) pa_nil)))
    (pss_cons (ps_while PassesOwn.never (pt_truth (pv 5) (fun _ => rfl))
      (pss_cons (ps_asg (pe_bm0 PySem.F.plainAttrs_list PySem.F.slot_list_pop PySem.F.type_list_pop mt_pop (pv 5)) (pg_tup rfl (pgs_cons (pg_name (i := 6) scRepl.nd rfl (Or.inl rfl)) (pgs_cons (pg_name (i := 7) scRepl.nd rfl (Or.inl rfl)) pgs_nil))))
    (pss_cons (ps_set (i := 8) scRepl.nd rfl (Or.inl rfl) (C8.pe_c ckind_parts hr (by decide) rfl (pa_cons (pv 6) pa_nil)))
    (pss_one (ps_if (pt_val (pv 7))
      (pss_cons (ps_set (i := 9) scRepl.nd rfl (Or.inl rfl) (pe_op op_sub (pe_callB call_len_seq rfl T.zlen PySem.boot_len (pa_cons (pv 4) pa_nil)) (pe_callB call_len_seq rfl T.zlen PySem.boot_len (pa_cons (pv 8) pa_nil))))
    (pss_one (ps_tail (pv 4) (pv 9) (pe_lst (pa_cons (C8.pe_c c_with_kind_parts hr (by decide) rfl (pa_cons (pv 6) (pa_cons (pe_slice sl_list (pv 4) (po_some (pv 9)) po_none) pa_nil))) pa_nil)))))
      (pss_one (ps_if (pt_truth (pv 8) (fun _ => rfl))
      (pss_cons (ps_expr (pe_bm PySem.F.plainAttrs_list PySem.F.slot_list_append PySem.F.type_list_append mt_append (pv 5) (pa_cons (pe_tup (pa_cons (pv 6) (pa_cons pe_bl pa_nil))) pa_nil)))
    (pss_one (ps_expr (pe_bm PySem.F.plainAttrs_list PySem.F.slot_list_extend PySem.F.type_list_extend mt_extend (pv 5) (pa_cons (pe_lc (own := [("inner", 10)]) (g := gName 10) (tt := tYes) rfl scRepl.nd (pi_tup (pe_rev (pv 8) (pe_un un_neg pe_int) (fun _ _ => by with_unfolding_all rfl))) (blkOk_by (own := [("inner", 10)]) (N := ["kind", "word", "types", "again", "done", "todo", "part", "ready", "below", "start", "inner"]) (sc := defScope sRepl) (by decide +kernel)) (fun _ _ _ _ _ => (pg_name (i := 10) scRepl.nd rfl (Or.inl rfl))) (fun _ _ _ _ _ => pts_nil) (fun _ _ _ _ _ => (pe_tup (pa_cons (pv 10) (pa_cons pe_bl pa_nil))))) pa_nil)))))
      (pss_one (ps_if (PW.pt (pw_or (pt_cmpR op_ne (pe_ix ix_tup (pv 6) pe_int (fun _ _ => rfl)) (pv 1) (nomark _)) (pw_or1 (pt_cmp (pc_dnotin hu (pe_ix ix_tup (pv 6) pe_int (fun _ _ => rfl)) (pv 2))))))
      (pss_one (ps_expr (pe_bm PySem.F.plainAttrs_list PySem.F.slot_list_append PySem.F.type_list_append mt_append (pv 4) (pa_cons (pv 6) pa_nil))))
      (pss_one (ps_if (pt_val (pv 3))
      (pss_one (ps_expr (pe_bm PySem.F.plainAttrs_list PySem.F.slot_list_append PySem.F.type_list_append mt_append (pv 5) (pa_cons (pe_tup (pa_cons (pe_dget hu (pv 2) (pe_ix ix_tup (pv 6) pe_int (fun _ _ => rfl)) (fun _ _ => rfl)) (pa_cons pe_bl pa_nil))) pa_nil))))
      (pss_one (ps_expr (pe_bm PySem.F.plainAttrs_list PySem.F.slot_list_append PySem.F.type_list_append mt_append (pv 4) (pa_cons (pe_dget hu (pv 2) (pe_ix ix_tup (pv 6) pe_int (fun _ _ => rfl)) (fun _ _ => rfl)) pa_nil)))))))))))))))
    (pss_one (ps_ret (pe_ix ix_list (pv 4) pe_int (fun _ _ => rfl))))))), ?_⟩
  refine ⟨by show 0 ≤ sizeLine; decide, fun dn hdn => ?_⟩
  have s1 := same_new hdn (.lst [])
  have e1 : upd H dn (.lst []) dn = some (.lst []) := upd_same
  generalize upd H dn (.lst []) = H1 at s1 e1 ⊢
  refine ⟨_, rfl, by show 2 ≤ sizeLine; decide, fun tp htp => ?_⟩
  have s2 := same_new htp (.tup [v, .bl false])
  have e2 : upd H1 tp (.tup [v, .bl false]) tp = some (.tup [v, .bl false]) := upd_same
  generalize upd H1 tp (.tup [v, .bl false]) = H2 at s2 e2 ⊢
  refine ⟨by show 1 ≤ sizeLine; decide, fun td htd => ?_⟩
  have s3 := same_new htd (.lst [.ref tp])
  have e3 : upd H2 td (.lst [.ref tp]) td = some (.lst [.ref tp]) := upd_same
  have ndt : dn ≠ td := ne_of_none (s2 _ _ e1) htd
  generalize upd H2 td (.lst [.ref tp]) = H3 at s3 e3 ⊢
  have s03 : Same H H3 := fun b o e => s3 _ _ (s2 _ _ (s1 _ _ e))
  have hdn0 : H dn = none := hdn
  have htd0 : H td = none := s1.free (s2.free htd)
  have t03 : TK H H3 := tk_same s03
  refine ⟨fun n σ' H4 => ∃ (v6 v7 v8 v9 v10 : Option V) (dl : List Kd) (dv : List V) (st : List Addr) (ts : List (Kd × Bool)), n = wts (Kd.cost uu) ts ∧ σ' = [some v, some (.str "meta"), some (.ref tb), some (.bl true), some (.ref dn), some (.ref td), v6, v7, v8, v9, v10] ∧ Same H H4 ∧ H4 dn = some (.lst dv) ∧ Kd.Ats H4 dl dv ∧ H4 td = some (.lst (st.reverse.map V.ref)) ∧ TasksAt H4 st ts ∧ dl.length + wts (wR R) ts ≤ 2 * (k.ms R).size ∧ fin R dl ts = some [k.ms R],
    ⟨_, none, none, none, none, none, [], [], [tp], [(k, false)], rfl, rfl, s03, s3 _ _ (s2 _ _ e1), rfl, e3, ⟨k, false, v, [], rfl, s3 _ _ e2, hk.keep t03, (fun h => by cases h), rfl⟩, (by show 0 + (2 * (k.ms R).size + 0) ≤ _; omega), rfl⟩, ?_⟩
  rintro n σ' H4 ⟨v6, v7, v8, v9, v10, dl, dv, st, ts, rfl, rfl, s4, hdn4, hat4, htd4, htk, hbd, hfin⟩
  refine ⟨_, rfl, _, .inl ⟨_, SqL.of htd4, rfl⟩, ?_⟩
  have hdl := hat4.len
  have t04 : TK H H4 := tk_same s4
  cases st with
  | nil =>
    refine iteF ?_
    have ets : ts = [] := htk
    subst ets
    have edl : dl = [k.ms R] := Option.some.inj hfin
    subst edl
    obtain ⟨u, us, rfl, hu1, e⟩ := hat4
    refine ⟨_, rfl, dn, _, 0, u, rfl, rfl, SqL.of hdn4, at0 _ _, ?_⟩
    exact q u H4 s4 hu1
  | cons a1 st =>
    obtain ⟨kk, bb, x, r, rfl, ha1, hx, hbb, hr⟩ := htk
    have ne : (!((a1 :: st).reverse.map V.ref).isEmpty) = true := by rw [List.reverse_cons, List.map_append]; cases st.reverse.map V.ref <;> rfl
    rw [ne]
    refine iteT ?_
    refine ⟨fun σ' H' => ∃ (v6 v7 v8 v9 v10 : Option V) (dl : List Kd) (dv : List V) (st : List Addr) (ts : List (Kd × Bool)), wts (Kd.cost uu) ts < wts (Kd.cost uu) ((kk, bb) :: r) ∧ σ' = [some v, some (.str "meta"), some (.ref tb), some (.bl true), some (.ref dn), some (.ref td), v6, v7, v8, v9, v10] ∧ Same H H' ∧ H' dn = some (.lst dv) ∧ Kd.Ats H' dl dv ∧ H' td = some (.lst (st.reverse.map V.ref)) ∧ TasksAt H' st ts ∧ dl.length + wts (wR R) ts ≤ 2 * (k.ms R).size ∧ fin R dl ts = some [k.ms R],
      fun σ' H' ⟨v6, v7, v8, v9, v10, dl, dv, st, ts, lt, rest⟩ => ⟨_, lt, v6, v7, v8, v9, v10, dl, dv, st, ts, rfl, rest⟩, ?_⟩
    refine ⟨_, rfl, .inl ⟨rfl, _, SqL.of htd4⟩, td, _, .ref a1, rfl, rfl, htd4, by rw [List.reverse_cons, List.map_append]; simp, a1, [x, .bl bb], rfl, ?_, rfl, _, _, rfl, _, _, rfl, rfl, ?_⟩
    · exact SqT.of (tk_list htd4 _ _ ha1)
    have eD : ((a1 :: st).reverse.map V.ref).dropLast = st.reverse.map V.ref := by rw [List.reverse_cons, List.map_append]; exact List.dropLast_concat
    rw [eD]
    have t5 : TK H4 (upd H4 td (.lst (st.reverse.map V.ref))) := tk_list htd4
    have s5 : Same H (upd H4 td (.lst (st.reverse.map V.ref))) := same_upd htd0 s4 _
    have htd5 : upd H4 td (.lst (st.reverse.map V.ref)) td = some (.lst (st.reverse.map V.ref)) := upd_same
    have hdn5 : upd H4 td (.lst (st.reverse.map V.ref)) dn = some (.lst dv) := by rw [upd_ne ndt]; exact hdn4
    generalize upd H4 td (.lst (st.reverse.map V.ref)) = H5 at t5 s5 htd5 hdn5
    have hx5 := hx.keep t5
    have hat5 := hat4.keep t5
    have hr5 := hr.keep t5
    refine ⟨_, rfl, x, kk, rfl, hx5, fun b1 xs1 H6 s6 hb1 ats1 => ?_⟩
    have t6 : TK H5 H6 := tk_same s6
    have s06 : Same H H6 := fun b o e => s6 _ _ (s5 _ _ e)
    have hdn6 := s6 _ _ hdn5
    have htd6 := s6 _ _ htd5
    have hxl1 := ats1.len
    have hrl := hr5.len
    have wl := wts_len R r
    refine ⟨_, rfl, bb, rfl, ?_⟩
    cases bb with
    | true =>
      refine iteT ?_
      have hne := hbb rfl
      have hpl : 1 ≤ kk.parts.length := by
        cases h : kk.parts with
        | nil => exact (hne h).elim
        | cons _ _ => rw [List.length_cons]; omega
      rw [fin] at hfin
      by_cases hle : kk.parts.length ≤ dl.length
      · rw [if_pos hle] at hfin
        have eN : ((dv.length : Int) - (xs1.length : Int)) = ((dl.length - kk.parts.length : Nat) : Int) := by omega
        refine ⟨_, rfl, dn, dv, rfl, .inl (SqL.of hdn6), _, rfl, b1, xs1, rfl, .inr (SqT.of hb1), _, _, rfl, rfl, ?_⟩
        refine ⟨_, rfl, _, rfl, _, rfl, _, rfl, dn, dv, rfl, SqL.of hdn6, fun p1 hp1 => ?_⟩
        rw [eN, cutN (show dl.length - kk.parts.length ≤ dv.length by omega)]
        have t7 : TK H6 (upd H6 p1 (.lst (dv.drop (dl.length - kk.parts.length)))) := tk_new hp1
        have s7 := same_new hp1 (.lst (dv.drop (dl.length - kk.parts.length)))
        have e7 : upd H6 p1 (.lst (dv.drop (dl.length - kk.parts.length))) p1 = some (.lst (dv.drop (dl.length - kk.parts.length))) := upd_same
        generalize upd H6 p1 (.lst (dv.drop (dl.length - kk.parts.length))) = H7 at t7 s7 e7 ⊢
        have wk : wts (wR R) ((kk, true) :: r) = 1 + wts (wR R) r := rfl
        refine ⟨x, p1, kk, dl.drop (dl.length - kk.parts.length), dv.drop (dl.length - kk.parts.length), rfl, hx5.keep (t6.trans t7), e7, atsDrop _ (hat5.keep (t6.trans t7)), by rw [List.length_drop]; omega, hne, by rw [List.length_drop]; omega, fun u H8 s8 hu8 => ?_⟩
        refine ⟨by show 1 ≤ sizeLine; decide, fun lb hlb => ?_⟩
        have s9 := same_new hlb (.lst [u])
        have e9 : upd H8 lb (.lst [u]) lb = some (.lst [u]) := upd_same
        have ndl : dn ≠ lb := ne_of_none (s8 _ _ (s7 _ _ hdn6)) hlb
        generalize upd H8 lb (.lst [u]) = H9 at s9 e9 ⊢
        have s69 : Same H6 H9 := fun b o e => s9 _ _ (s8 _ _ (s7 _ _ e))
        have t69 := tk_same s69
        refine ⟨_, rfl, _, rfl, dn, lb, dv, [u], dl.length - kk.parts.length, rfl, rfl, (by show V.int ((dv.length : Int) - (xs1.length : Int)) = _; rw [eN]), s69 _ _ hdn6, e9, ndl, by omega, (by show dv.length + 1 ≤ _; exact Nat.le_of_lt (szl (by omega))), ?_⟩
        have t10 : TK H9 (upd H9 dn (.lst (dv.take (dl.length - kk.parts.length) ++ [u]))) := tk_list (s69 _ _ hdn6)
        refine ⟨_, _, _, _, _, dl.take (dl.length - kk.parts.length) ++ [kk.put (dl.drop (dl.length - kk.parts.length))], dv.take (dl.length - kk.parts.length) ++ [u], st, r, (by show wts (Kd.cost uu) r < 1 + wts (Kd.cost uu) r; omega), rfl, same_upd hdn0 (fun b o e => s69 _ _ (s06 _ _ e)) _, upd_same, ?_, ?_, ?_, ?_, hfin⟩
        · exact Kd.Ats.app (atsTake _ (hat5.keep (t6.trans (t69.trans t10)))) ⟨u, [], rfl, (hu8.keep (tk_same s9)).keep t10, rfl⟩
        · rw [upd_ne ndt.symm]
          exact s69 _ _ htd6
        · exact hr5.keep (t6.trans (t69.trans t10))
        · have z : wts (wR R) ((kk, true) :: r) = 1 + wts (wR R) r := rfl
          rw [List.length_append, List.length_take, List.length_singleton]
          omega
      · rw [if_neg hle] at hfin
        cases hfin
    | false =>
      refine iteF ?_
      have ewt : wts (wR R) ((kk, false) :: r) = wR R kk + wts (wR R) r := rfl
      have ewp := wR_pos R kk
      have ewR : wR R kk = 2 * (kk.ms R).size := rfl
      have ecp := cost_pos uu kk
      refine ⟨_, rfl, _, .inr (.inl ⟨xs1, SqT.of hb1, rfl⟩), ?_⟩
      by_cases hne : kk.parts = []
      · have ex1 : xs1 = [] := List.length_eq_zero_iff.mp (by rw [hxl1, hne]; rfl)
        subst ex1
        refine iteF ?_
        have app : ∀ (u : V) (H7 : Hp), Same H6 H7 → (kk.ms R).At H7 u → dv.length < sizeLine ∧ (Same H (upd H7 dn (.lst (dv ++ [u]))) ∧ Kd.Ats (upd H7 dn (.lst (dv ++ [u]))) (dl ++ [kk.ms R]) (dv ++ [u]) ∧ upd H7 dn (.lst (dv ++ [u])) td = some (.lst (st.reverse.map V.ref)) ∧ TasksAt (upd H7 dn (.lst (dv ++ [u]))) st r ∧ (dl ++ [kk.ms R]).length + wts (wR R) r ≤ 2 * (k.ms R).size ∧ fin R (dl ++ [kk.ms R]) r = some [k.ms R]) := fun u H7 s7 hu7 => by
          have t7 : TK H6 H7 := tk_same s7
          have t8 : TK H7 (upd H7 dn (.lst (dv ++ [u]))) := tk_list (s7 _ _ hdn6)
          refine ⟨szl (by omega), same_upd hdn0 (fun b o e => s7 _ _ (s06 _ _ e)) _, Kd.Ats.app (hat5.keep (t6.trans (t7.trans t8))) ⟨u, [], rfl, hu7.keep t8, rfl⟩, ?_, hr5.keep (t6.trans (t7.trans t8)), ?_, ?_⟩
          · rw [upd_ne ndt.symm]
            exact s7 _ _ htd6
          · rw [List.length_append, List.length_singleton]
            omega
          · rw [fin] at hfin
            exact hfin
        have lt : wts (Kd.cost uu) r < wts (Kd.cost uu) ((kk, false) :: r) := by show _ < kk.cost uu + _; omega
        have hx6 := hx5.keep t6
        cases kk with
        | nm s =>
          obtain ⟨a2, rfl, ha2⟩ := hx6
          refine ⟨_, rfl, a2, _, 0, .str "name", rfl, rfl, SqT.of ha2, at0 _ _, _, rfl, rfl, _, rfl, ?_⟩
          show if (!decide (V.str "name" = V.str "meta")) = true then _ else _
          rw [show decide (V.str "name" = V.str "meta") = false from decide_eq_false fun e => absurd (V.str.inj e) (by decide +kernel)]
          refine iteT (iteT ?_)
          obtain ⟨g0, g1⟩ := app (.ref a2) H6 (fun _ _ e => e) ⟨a2, rfl, ha2⟩
          refine ⟨_, rfl, .inl ⟨rfl, _, SqL.of hdn6⟩, _, rfl, dn, _, _, rfl, rfl, hdn6, g0, ?_⟩
          exact ⟨_, _, _, _, _, _, _, st, r, lt, rfl, g1.1, upd_same, g1.2⟩
        | mt i =>
          obtain ⟨a2, rfl, ha2⟩ := hx6
          refine ⟨_, rfl, a2, _, 0, .str "meta", rfl, rfl, SqT.of ha2, at0 _ _, _, rfl, rfl, _, rfl, ?_⟩
          show if (!decide (V.str "meta" = V.str "meta")) = true then _ else _
          rw [show decide (V.str "meta" = V.str "meta") = true from decide_eq_true rfl]
          refine iteF ?_
          have htb6 := s06 _ _ htb
          refine ⟨_, rfl, a2, _, 1, .int i, rfl, rfl, SqT.of ha2, at1 _ _ _, _, rfl, tb, _, rfl, DGet.k (k := Sum.inl i) htb6, _, rfl, ?_⟩
          rcases (hF.keep (tk_same s06)).look i with ⟨l1, l2⟩ | ⟨m, v', l1, l2, hm⟩
          · rw [l2]
            refine iteT ?_
            have es : (Kd.mt i).ms R = .mt i := hU.opn i l1
            obtain ⟨g0, g1⟩ := app (.ref a2) H6 (fun _ _ e => e) (by rw [es]; exact ⟨a2, rfl, ha2⟩)
            refine ⟨_, rfl, .inl ⟨rfl, _, SqL.of hdn6⟩, _, rfl, dn, _, _, rfl, rfl, hdn6, g0, ?_⟩
            exact ⟨_, _, _, _, _, _, _, st, r, lt, rfl, g1.1, upd_same, g1.2⟩
          · rw [l2]
            refine iteF ?_
            refine ⟨_, rfl, _, rfl, ?_⟩
            refine iteT ?_
            refine ⟨_, rfl, .inl ⟨rfl, _, SqL.of htd6⟩, _, rfl, _, rfl, a2, _, 1, .int i, rfl, rfl, SqT.of ha2, at1 _ _ _, tb, v', rfl, l2 ▸ DGet.k (k := Sum.inl i) htb6, by show 2 ≤ sizeLine; decide, fun tq htq => ?_⟩
            have s7 := same_new htq (.tup [v', .bl false])
            have e7 : upd H6 tq (.tup [v', .bl false]) tq = some (.tup [v', .bl false]) := upd_same
            generalize upd H6 tq (.tup [v', .bl false]) = H7 at s7 e7 ⊢
            have t7 : TK H6 H7 := tk_same s7
            have s07 : Same H H7 := fun b o e => s7 _ _ (s06 _ _ e)
            refine ⟨td, _, _, rfl, rfl, s7 _ _ htd6, (by rw [List.length_map, List.length_reverse]; exact szl (by omega)), ?_⟩
            have t8 : TK H7 (upd H7 td (.lst (st.reverse.map V.ref ++ [.ref tq]))) := tk_list (s7 _ _ htd6)
            have em : (Kd.mt i).ms R = m.ms R := hU.solves (i, m) l1
            have ew : wR R (.mt i) = wR R m := by unfold wR; rw [em]
            have ec : 1 + m.cost uu ≤ uu i := hU.cost (i, m) l1
            refine ⟨_, _, _, _, _, dl, dv, tq :: st, (m, false) :: r, ?_, rfl, same_upd htd0 s07 _, ?_, ?_, ?_, ?_, ?_, ?_⟩
            · show m.cost uu + wts (Kd.cost uu) r < (2 + uu i) + wts (Kd.cost uu) r
              omega
            · rw [upd_ne ndt]
              exact s7 _ _ hdn6
            · exact hat5.keep (t6.trans (t7.trans t8))
            · rw [upd_same, List.reverse_cons, List.map_append]
              rfl
            · exact ⟨m, false, v', r, rfl, t8 _ _ e7, hm.keep (t7.trans t8), (fun h => by cases h), hr5.keep (t6.trans (t7.trans t8))⟩
            · show dl.length + (wR R m + wts (wR R) r) ≤ _
              omega
            · rw [fin] at hfin ⊢
              rw [← em]
              exact hfin
        | fn k1 k2 => cases hne
        | cn s l =>
          have el : l = [] := hne
          subst el
          obtain ⟨a2, c2, ys2, rfl, ha2, hc2, hy2⟩ := hx6
          refine ⟨_, rfl, a2, _, 0, .str "con", rfl, rfl, SqT.of ha2, at0 _ _, _, rfl, rfl, _, rfl, ?_⟩
          show if (!decide (V.str "con" = V.str "meta")) = true then _ else _
          rw [show decide (V.str "con" = V.str "meta") = false from decide_eq_false fun e => absurd (V.str.inj e) (by decide +kernel)]
          refine iteT (iteT ?_)
          obtain ⟨g0, g1⟩ := app (.ref a2) H6 (fun _ _ e => e) ⟨a2, c2, ys2, rfl, ha2, hc2, hy2⟩
          refine ⟨_, rfl, .inl ⟨rfl, _, SqL.of hdn6⟩, _, rfl, dn, _, _, rfl, rfl, hdn6, g0, ?_⟩
          exact ⟨_, _, _, _, _, _, _, st, r, lt, rfl, g1.1, upd_same, g1.2⟩
      · have hxne : (!xs1.isEmpty) = true := by
          cases xs1 with
          | nil => exact (hne (List.length_eq_zero_iff.mp hxl1.symm)).elim
          | cons _ _ => rfl
        rw [hxne]
        refine iteT ?_
        refine ⟨_, rfl, .inl ⟨rfl, _, SqL.of htd6⟩, _, rfl, by show 2 ≤ sizeLine; decide, fun tq htq => ?_⟩
        have s7 := same_new htq (.tup [x, .bl true])
        have e7 : upd H6 tq (.tup [x, .bl true]) tq = some (.tup [x, .bl true]) := upd_same
        generalize upd H6 tq (.tup [x, .bl true]) = H7 at s7 e7 ⊢
        refine ⟨td, _, _, rfl, rfl, s7 _ _ htd6, (by rw [List.length_map, List.length_reverse]; exact szl (by omega)), ?_⟩
        have t7 : TK H6 H7 := tk_same s7
        have s07 : Same H H7 := fun b o e => s7 _ _ (s06 _ _ e)
        have t8 : TK H7 (upd H7 td (.lst (st.reverse.map V.ref ++ [.ref tq]))) := tk_list (s7 _ _ htd6)
        have s08 : Same H (upd H7 td (.lst (st.reverse.map V.ref ++ [.ref tq]))) := same_upd htd0 s07 _
        have htd8 : upd H7 td (.lst (st.reverse.map V.ref ++ [.ref tq])) td = some (.lst (st.reverse.map V.ref ++ [.ref tq])) := upd_same
        have hdn8 : upd H7 td (.lst (st.reverse.map V.ref ++ [.ref tq])) dn = some (.lst dv) := by rw [upd_ne ndt]; exact s7 _ _ hdn6
        generalize upd H7 td (.lst (st.reverse.map V.ref ++ [.ref tq])) = H8 at t8 s08 htd8 hdn8 ⊢
        have t68 := t7.trans t8
        refine ⟨_, rfl, .inl ⟨rfl, _, SqL.of htd8⟩, _, rfl, _, rfl, rfl, b1, xs1, rfl, SqT.of (t68 _ _ hb1), fun rp hrp => ?_⟩
        have s9 := same_new hrp (.tup xs1.reverse)
        have e9 : upd H8 rp (.tup xs1.reverse) rp = some (.tup xs1.reverse) := upd_same
        generalize upd H8 rp (.tup xs1.reverse) = H9 at s9 e9 ⊢
        have t9 := tk_same s9
        have ats9 := ats1.keep (t68.trans t9)
        have atsR := atsRev ats9
        refine ⟨rp, rfl, ⟨_, SqT.of e9⟩, fun D hD => ?_⟩
        refine lc_tup (K := K) (a := rp) (xs := xs1.reverse) (fun i G => ∃ bs : List Addr, G D = some (.lst (bs.map V.ref)) ∧ bs.length = i ∧ Same H9 G ∧ TasksAt G bs ((kk.parts.reverse.take i).map (·, false))) ⟨[], upd_same, rfl, same_new hD _, rfl⟩ (fun i G hi ⟨bs, h1, h2, h3, h4⟩ => SqT.of (h3 _ _ e9)) ?_ ?_
        · rintro i y G hy ⟨bs, h1, h2, h3, h4⟩
          obtain ⟨ki, hki, hat⟩ := Kd.Ats.get i atsR hy
          have hil : i < kk.parts.reverse.length := (List.getElem?_eq_some_iff.mp hki).1
          refine ⟨rfl, ?_⟩
          refine tYes_if ?_
          refine ⟨_, rfl, by show 2 ≤ sizeLine; decide, fun tq2 htq2 => ?_⟩
          have s10 := same_new htq2 (.tup [y, .bl false])
          have e10 : upd G tq2 (.tup [y, .bl false]) tq2 = some (.tup [y, .bl false]) := upd_same
          generalize upd G tq2 (.tup [y, .bl false]) = G2 at s10 e10 ⊢
          have z1 := parts_len R kk hne
          rw [List.length_reverse] at hil
          have t11 : TK G2 (upd G2 D (.lst (bs.map V.ref ++ [.ref tq2]))) := tk_list (s10 _ _ h1)
          refine ⟨bs.map V.ref, s10 _ _ h1, (by rw [List.length_map]; exact szl (by omega)), bs ++ [tq2], (by rw [upd_same, List.map_append]; rfl), by rw [List.length_append, h2]; rfl, same_upd hD (fun b o e => s10 _ _ (h3 _ _ e)) _, ?_⟩
          rw [List.take_add_one, hki, List.map_append]
          exact TasksAt.app (h4.keep ((tk_same s10).trans t11)) ⟨ki, false, y, [], rfl, t11 _ _ e10, hat.keep ((tk_same (fun b o e => s10 _ _ (h3 _ _ e))).trans t11), (fun h => by cases h), rfl⟩
        · rintro G ⟨bs, h1, h2, h3, h4⟩
          have elen : xs1.reverse.length = kk.parts.reverse.length := by rw [List.length_reverse, List.length_reverse, hxl1]
          rw [elen, List.take_length] at h4
          have z1 := parts_len R kk hne
          have hbl : bs.length = kk.parts.length := by rw [h2, elen, List.length_reverse]
          refine ⟨td, D, _, _, rfl, rfl, h3 _ _ (s9 _ _ htd8), h1, ?_, ?_⟩
          · rw [List.length_append, List.length_map, List.length_map, List.length_reverse, List.length_singleton]
            exact Nat.le_of_lt (szl (by omega))
          · have tG : TK H9 G := tk_same h3
            have t12 : TK G (upd G td (.lst (st.reverse.map V.ref ++ [.ref tq] ++ bs.map V.ref))) := tk_list (h3 _ _ (s9 _ _ htd8))
            have tAll := t68.trans (t9.trans (tG.trans t12))
            refine ⟨_, _, _, _, _, dl, dv, bs.reverse ++ (tq :: st), kk.parts.map (·, false) ++ ((kk, true) :: r), ?_, rfl, same_upd htd0 (fun b o e => h3 _ _ (s9 _ _ (s08 _ _ e))) _, ?_, ?_, ?_, ?_, ?_, ?_⟩
            · rw [wts_app, wts_parts]
              show _ + (1 + wts (Kd.cost uu) r) < kk.cost uu + _
              rw [cost_parts uu kk hne]
              omega
            · rw [upd_ne ndt]
              exact h3 _ _ (s9 _ _ hdn8)
            · exact hat5.keep (t6.trans tAll)
            · rw [upd_same, List.reverse_append, List.reverse_cons, List.reverse_reverse, List.map_append, List.map_append]
              rfl
            · refine TasksAt.app (tasksRev ?_) ⟨kk, true, x, r, rfl, (t8.trans (t9.trans (tG.trans t12))) _ _ e7, hx5.keep (t6.trans tAll), fun _ => hne, hr5.keep (t6.trans tAll)⟩
              have em : kk.parts.reverse.map (fun k : Kd => (k, false)) = (kk.parts.map (fun k => (k, false))).reverse := List.map_reverse
              rw [em] at h4
              exact h4.keep t12
            · rw [wts_app, wts_parts]
              have z := wR_parts R kk hne
              show _ + (_ + (1 + wts (wR R) r)) ≤ _
              omega
            · rw [fin_open _ _ hne]
              exact hfin
end
end Toy

set_option Elab.async false
set_option linter.all false
set_option maxRecDepth 100000
set_option maxHeartbeats 4000000
/-! Part E: the class that makes types equal. -/
namespace Toy
open PySem L2
open PyProof.Rows (envOfC)
theorem met_of {P : Program} {w : World} {K : PySem.W.Frag} {mg : Str → Option Value} {base : Heap} {C : Addr} {m qual : Str} {st : Stmt} {f : Addr} {fd : FuncData} {N ps : List Str} {k : Nat} {sp : Sp} (c : Cls K C) (me : Meth K C m f) (F : Fun K m qual st f fd) (b : Binds K fd ps []) (S : FnScope N ps (defScope st)) (len : ∀ vs H Q E, sp vs H Q E → vs.length = ps.length)
    (hbody : ∀ (cdv : Value) (A : Around) (outer : List Env) (s : Shared) (H : Hp) (vs : List V) (Q : VK) (E : XK), Room k (A.deeper (envOfC qual (defScope st) s.heap.objs.size f cdv)) → sp vs H Q E →
      ∃ t, PSs (cxOf CX0 P w K mg base N qual (defScope st) f cdv A outer s H E).nox (defBody st) t ∧ t { nx := fun _ H' => Q .non H', rt := Q } (start N vs) H) : C8.Met P w K mg base (k + 1) C m sp [] :=
  ⟨f, fd, ps, [], c, me, F.ok S len hbody, b, .nil⟩
/-- the fields -/
def fldU (n : Int) (d : Addr) : List (Str × V) := putF "known" (.ref d) (putF "made" (.int n) [])
theorem knm : ¬ ("known" : Str) = "made" := by decide +kernel
theorem kmn : ¬ ("made" : Str) = "known" := by decide +kernel
theorem fldU_known (n : Int) (d : Addr) : (fldU n d).lookup ("known" : Str) = some (.ref d) := by
  unfold fldU
  rw [lookup_putF, if_pos rfl]
theorem fldU_made (n : Int) (d : Addr) : (fldU n d).lookup ("made" : Str) = some (.int n) := by
  unfold fldU
  rw [lookup_putF, if_neg kmn, lookup_putF, if_pos rfl]
theorem fldU_no (n : Int) (d : Addr) {m : Str} (h1 : ¬ m = "made") (h2 : ¬ m = "known") : (fldU n d).lookup m = none := by
  unfold fldU
  rw [lookup_putF, if_neg h2, lookup_putF, if_neg h1]
  all_goals rfl
theorem fldU_put (n m : Int) (d : Addr) : putF "made" (.int m) (fldU n d) = fldU m d := by
  unfold fldU
  rfl
structure TxtU (K : PySem.W.Frag) (mg : Str → Option Value) (C : Addr) : Prop where
  zlist : mg "list" = none
  zzip : mg "zip" = none
  cl : Cls K C
  nM : NoAttr K C "made"
  nK : NoAttr K C "known"
/-- a unifier stands at o, its dict at d: the next number, what is known -/
def Un (C : Addr) (H : Hp) (o d : Addr) (n : Int) (κ : Kn) : Prop := ∃ (dx : Addr) (kvs : List (Key × V)), H o = some (.ins C dx (fldU n d)) ∧ H d = some (.dK kvs) ∧ KnAt H kvs κ
theorem Un.same {C : Addr} {H H' : Hp} {o d : Addr} {n : Int} {κ : Kn} (s : Same H H') : Un C H o d n κ → Un C H' o d n κ := fun ⟨dx, kvs, h1, h2, h3⟩ => ⟨dx, kvs, s _ _ h1, s _ _ h2, h3.keep (tk_same s)⟩
theorem sameT {H1 H2 H3 : Hp} (a : Same H1 H2) (b : Same H2 H3) : Same H1 H3 := fun x o e => b x o (a x o e)
theorem wz (a b : Str) (h : (a == b) = false) : decide (V.str a = V.str b) = false := decide_eq_false fun e => by
  have := V.str.inj e
  rw [this, beq_self_eq_true] at h
  cases h
theorem wtt (a : Str) : decide (V.str a = V.str a) = true := decide_eq_true rfl
/-- the kinds but metas -/
def Kd.isM : Kd → Bool
  | .mt _ => true
  | _ => false
theorem Kd.isM_word : ∀ k : Kd, k.isM = false → k.word ≠ "meta"
  | .nm _, _ => by show ("name" : Str) ≠ "meta"; decide +kernel
  | .fn _ _, _ => by show ("fun" : Str) ≠ "meta"; decide +kernel
  | .cn _ _, _ => by show ("con" : Str) ≠ "meta"; decide +kernel
theorem wne {a b : Str} (h : a ≠ b) : decide (V.str a = V.str b) = false := decide_eq_false fun e => h (V.str.inj e)
section
variable {P : Program} {w : World} {K : PySem.W.Frag} {mg : Str → Option Value} {base : Heap} {C : Addr}
abbrev sShown : Stmt := inClass (topS 9) 4
theorem scShown : FnScope ["self", "kind"] ["self", "kind"] (defScope sShown) := ⟨rfl, rfl, rfl, by decide +kernel, rfl, by decide +kernel, by decide +kernel⟩
def spShown (C : Addr) : Sp := fun vs H Q _ => ∃ (o d : Addr) (n : Int) (κ : Kn) (v : V) (k : Kd) (θ R : Int → Kd) (uu : Int → Nat), vs = [.ref o, v] ∧ Un C H o d n κ ∧ Uni θ R uu κ ∧ k.At H v ∧ ∀ (u : V) (t : Kd), t.At H u → (∀ S, Solves' S κ → k.ms S = t.ms S) → (∀ i, t = .mt i → ∀ q ∈ κ, q.1 ≠ i) → (t = k ∨ ∃ q ∈ κ, q.2 = t) → Q u H
theorem c_shown {f : Addr} {fd : FuncData} (T : TxtU K mg C) (me : Meth K C "shown" f) (F : Fun K "shown" "Unifier.shown" sShown f fd) (b : Binds K fd ["self", "kind"] []) : C8.Met P w K mg base 1 C "shown" (spShown C) [] := by
  refine met_of T.cl me F b scShown (fun vs H Q E h => ?_) (fun cdv A outer s H vs Q E hr h => ?_)
  · obtain ⟨o, d, n, κ, v, k, θ, R, uu, rfl, _⟩ := h
    rfl
  obtain ⟨o, d, n, κ, v, k, θ, R, uu, rfl, ⟨dx, kvs, ho, hd, hK⟩, hU, hk, q⟩ := h
  have hu := hu_of hr
  refine ⟨_, (pss_cons (ps_while PassesOwn.never (PW.pt (pw_and (pt_cmpR op_eq (pe_ix ix_tup (pv 1) pe_int (fun _ _ => rfl)) pe_str (nomark _)) (pw_and1 (pt_cmp (pc_din hu (pe_ix ix_tup (pv 1) pe_int (fun _ _ => rfl)) (pe_fld (pv 0) rfl))))))
      (pss_one (ps_set (i := 1) scShown.nd rfl (Or.inl rfl) (pe_dget hu (pe_fld (pv 0) rfl) (pe_ix ix_tup (pv 1) pe_int (fun _ _ => rfl)) (fun _ _ => rfl)))))
    (pss_one (ps_ret (pv 1)))), ?_⟩
  refine ⟨fun n' σ H2 => ∃ (u : V) (t : Kd), n' = t.cost uu ∧ σ = [some (.ref o), some u] ∧ H2 = H ∧ t.At H u ∧ (∀ S, Solves' S κ → k.ms S = t.ms S) ∧ (t = k ∨ ∃ q ∈ κ, q.2 = t), ⟨_, v, k, rfl, rfl, rfl, hk, fun _ _ => rfl, .inl rfl⟩, ?_⟩
  rintro n' σ H2 ⟨u, t, rfl, rfl, rfl, ht, hS, hor⟩
  cases hm : t.isM with
  | false =>
    obtain ⟨a, r, rfl, ha⟩ := id ht.tup
    refine ⟨_, rfl, a, _, 0, .str t.word, rfl, rfl, SqT.of ha, at0 _ _, rfl, _, rfl, ?_⟩
    show if decide (V.str t.word = V.str "meta") = true then _ else _
    rw [wne (t.isM_word hm)]
    refine iteF (iteF ?_)
    exact ⟨_, rfl, q _ t ht hS (fun i e => by rw [e] at hm; cases hm) hor⟩
  | true =>
    cases t with
    | mt i =>
      obtain ⟨a, rfl, ha⟩ := id ht
      refine ⟨_, rfl, a, _, 0, .str "meta", rfl, rfl, SqT.of ha, at0 _ _, rfl, _, rfl, ?_⟩
      show if decide (V.str "meta" = V.str "meta") = true then _ else _
      rw [wtt]
      refine iteT ?_
      refine ⟨_, rfl, a, _, 1, .int i, rfl, rfl, SqT.of ha, at1 _ _ _, _, rfl, o, C, dx, _, .ref d, rfl, ho, T.cl, T.nK, fldU_known n d, d, _, rfl, DGet.k (k := Sum.inl i) hd, _, rfl, ?_⟩
      rcases hK.look i with ⟨l1, l2⟩ | ⟨t', v', l1, l2, l3⟩
      · rw [l2]
        refine iteF ?_
        exact ⟨_, rfl, q _ (.mt i) ht hS (fun j e => by injection e with e; rw [← e]; exact l1) hor⟩
      · rw [l2]
        refine iteT ?_
        have ec : 1 + t'.cost uu ≤ uu i := hU.cost (i, t') l1
        refine ⟨fun σ' H' => ∃ (u : V) (t : Kd), t.cost uu < (Kd.mt i).cost uu ∧ σ' = [some (.ref o), some u] ∧ H' = H2 ∧ t.At H2 u ∧ (∀ S, Solves' S κ → k.ms S = t.ms S) ∧ (t = k ∨ ∃ q ∈ κ, q.2 = t), fun σ' H' ⟨u, t, lt, rest⟩ => ⟨_, lt, u, t, rfl, rest⟩, ?_⟩
        refine ⟨_, rfl, o, C, dx, _, .ref d, rfl, ho, T.cl, T.nK, fldU_known n d, _, rfl, a, _, 1, .int i, rfl, rfl, SqT.of ha, at1 _ _ _, d, v', rfl, l2 ▸ DGet.k (k := Sum.inl i) hd, ?_⟩
        exact ⟨v', t', by show _ < 2 + uu i; omega, rfl, rfl, l3, fun S hS' => by rw [hS S hS']; exact hS' (i, t') l1, .inr ⟨(i, t'), l1, rfl⟩⟩
    | nm s => cases hm
    | fn a b => cases hm
    | cn s l => cases hm
/-- how much is not yet looked at -/
def unseen (sn : List Int) : Kn → Nat
  | [] => 0
  | q :: κ => (if q.1 ∈ sn then 0 else 1 + q.2.size) + unseen sn κ
theorem unseen_le (sn : List Int) : ∀ κ : Kn, (∀ q ∈ κ, q.2.size ≤ 1000) → unseen sn κ ≤ κ.length * 1001
  | [], _ => Nat.le_refl _
  | q :: κ, h => by
    have h1 := unseen_le sn κ fun p hp => h p (List.mem_cons_of_mem _ hp)
    have h2 := h q (List.mem_cons_self ..)
    show (if q.1 ∈ sn then 0 else 1 + q.2.size) + unseen sn κ ≤ (κ.length + 1) * 1001
    split <;> omega
theorem unseen_mono (sn : List Int) (m : Int) : ∀ κ : Kn, unseen (sn ++ [m]) κ ≤ unseen sn κ
  | [] => Nat.le_refl _
  | q :: κ => by
    have h1 := unseen_mono sn m κ
    show (if q.1 ∈ sn ++ [m] then 0 else 1 + q.2.size) + unseen (sn ++ [m]) κ ≤ (if q.1 ∈ sn then 0 else 1 + q.2.size) + unseen sn κ
    by_cases e : q.1 ∈ sn
    · rw [if_pos e, if_pos (List.mem_append_left _ e)]; omega
    · rw [if_neg e]
      split <;> omega
theorem unseen_add {sn : List Int} {m : Int} {t : Kd} (n : m ∉ sn) : ∀ {κ : Kn}, (m, t) ∈ κ → unseen (sn ++ [m]) κ + 1 + t.size ≤ unseen sn κ
  | q :: κ, h => by
    show (if q.1 ∈ sn ++ [m] then 0 else 1 + q.2.size) + unseen (sn ++ [m]) κ + 1 + t.size ≤ (if q.1 ∈ sn then 0 else 1 + q.2.size) + unseen sn κ
    rcases List.mem_cons.mp h with e | e
    · have h1 := unseen_mono sn m κ
      rw [← e]
      show (if m ∈ sn ++ [m] then 0 else 1 + t.size) + unseen (sn ++ [m]) κ + 1 + t.size ≤ (if m ∈ sn then 0 else 1 + t.size) + unseen sn κ
      rw [if_pos (List.mem_append_right _ (List.mem_singleton.mpr rfl)), if_neg n]
      omega
    · have h1 := unseen_add n e
      by_cases e2 : q.1 ∈ sn
      · rw [if_pos e2, if_pos (List.mem_append_left _ e2)]; omega
      · rw [if_neg e2]
        split <;> omega
theorem atsSnoc {H : Hp} : ∀ {l : List Kd} {xs : List V} {x : V}, Kd.Ats H l (xs ++ [x]) → ∃ m k, l = m ++ [k] ∧ Kd.Ats H m xs ∧ k.At H x
  | [], xs, x, h => by
    have h : xs ++ [x] = [] := h
    simp at h
  | q :: L, [], x, ⟨y, ys, e, h1, h2⟩ => by
    obtain ⟨rfl, rfl⟩ := List.cons.inj (show [x] = y :: ys from e)
    cases L with
    | nil => exact ⟨[], q, rfl, rfl, h1⟩
    | cons p L =>
      obtain ⟨z, zs, e2, _⟩ := h2
      cases e2
  | q :: L, w :: xs, x, ⟨y, ys, e, h1, h2⟩ => by
    obtain ⟨rfl, rfl⟩ := List.cons.inj (show w :: (xs ++ [x]) = y :: ys from e)
    obtain ⟨M, q', e2, h3, h4⟩ := atsSnoc h2
    exact ⟨q :: M, q', by rw [e2]; rfl, ⟨w, xs, rfl, h1, h3⟩, h4⟩
theorem hass_mem {m : Int} {f : Int → Kd} : ∀ {l : List Kd} {c : Kd}, c ∈ l → (c.ms f).hasM m → Kd.hasMs m (Kd.mss f l)
  | k :: l, c, hc, h => by
    show (k.ms f).hasM m ∨ Kd.hasMs m (Kd.mss f l)
    rcases List.mem_cons.mp hc with e | e
    · rw [e] at h; exact .inl h
    · exact .inr (hass_mem e h)
theorem part_has {m : Int} {f : Int → Kd} : ∀ {t c : Kd}, c ∈ t.parts → (c.ms f).hasM m → (t.ms f).hasM m
  | .nm s, c, h, _ => by cases h
  | .mt i, c, h, _ => by cases h
  | .fn a b, c, h, k => by
    show (a.ms f).hasM m ∨ (b.ms f).hasM m
    rcases List.mem_cons.mp h with e | e
    · rw [e] at k; exact .inl k
    · rw [List.mem_singleton.mp e] at k; exact .inr k
  | .cn s l, c, h, k => hass_mem (show c ∈ l from h) k
theorem nodupI_len : ∀ {l m : List Int}, l.Nodup → (∀ s ∈ l, s ∈ m) → l.length ≤ m.length
  | [], m, _, _ => Nat.zero_le _
  | x :: l, m, n, h => by
    have n2 := List.nodup_cons.mp n
    have hx := h x (List.mem_cons_self ..)
    have z := nodupI_len (m := m.erase x) n2.2 fun s hs => by
      have ne : s ≠ x := fun e => n2.1 (e ▸ hs)
      exact (List.mem_erase_of_ne ne).mpr (h s (List.mem_cons_of_mem _ hs))
    rw [List.length_erase_of_mem hx] at z
    have := List.length_pos_of_mem hx
    rw [List.length_cons]
    omega
def setI (ks : List Int) : List (Key × V) := ks.map fun s => (Sum.inl s, V.bl true)
theorem get_setI (ks : List Int) (s : Int) : valV (setI ks) (Sum.inl s) = if s ∈ ks then some (V.bl true) else none := by
  induction ks with
  | nil => rfl
  | cons x r ih =>
    unfold setI at ih ⊢
    rw [List.map_cons]
    by_cases e : x = s
    · rw [valV_pos (by rw [e]), if_pos (by rw [e]; exact List.mem_cons_self ..)]
    · rw [valV_neg (fun z => e (Sum.inl.inj z)), ih]
      by_cases h : s ∈ r
      · rw [if_pos h, if_pos (List.mem_cons_of_mem _ h)]
      · rw [if_neg h, if_neg (fun z => (List.mem_cons.mp z).elim (fun q => e q.symm) h)]
theorem put_setI {ks : List Int} {s : Int} (h : s ∉ ks) : putK (setI ks) (Sum.inl s) (V.bl true) = setI (ks ++ [s]) := by
  rw [putK_new _ (by rw [get_setI, if_neg h])]
  unfold setI
  rw [List.map_append]
  rfl
end
end Toy

set_option Elab.async false
set_option linter.all false
set_option maxRecDepth 100000
set_option maxHeartbeats 4000000
/-! Part F: notes; types made equal; types with what is known put in. -/
namespace Toy
open PySem L2
open PyProof.Rows (envOfC)
/-- pairs of types stand at these addresses -/
def PairsAt (H : Hp) : List Addr → List (Kd × Kd) → Prop
  | [], L => L = []
  | a :: st, L => ∃ p k x y M, L = (p, k) :: M ∧ H a = some (.tup [x, y]) ∧ p.At H x ∧ k.At H y ∧ PairsAt H st M
theorem PairsAt.keep {H H' : Hp} (t : TK H H') : ∀ {st : List Addr} {L : List (Kd × Kd)}, PairsAt H st L → PairsAt H' st L
  | [], _, h => h
  | a :: st, _, ⟨p, k, x, y, M, e, h1, h2, h3, h4⟩ => ⟨p, k, x, y, M, e, t _ _ h1, h2.keep t, h3.keep t, h4.keep t⟩
theorem PairsAt.len {H : Hp} : ∀ {st : List Addr} {L : List (Kd × Kd)}, PairsAt H st L → st.length = L.length
  | [], _, h => by
    have e : _ = [] := h
    rw [e]
    rfl
  | a :: st, _, ⟨p, k, x, y, M, e, h1, h2, h3, h4⟩ => by rw [e, List.length_cons, List.length_cons, h4.len]
theorem PairsAt.app {H : Hp} : ∀ {st su : List Addr} {L M : List (Kd × Kd)}, PairsAt H st L → PairsAt H su M → PairsAt H (st ++ su) (L ++ M)
  | [], _, _, _, h, k => by
    have e : _ = [] := h
    subst e
    exact k
  | a :: st, _, _, _, ⟨p, k, x, y, M, e, h1, h2, h3, h4⟩, h => by
    subst e
    exact ⟨p, k, x, y, _, rfl, h1, h2, h3, h4.app h⟩
theorem PairsAt.snoc {H : Hp} {a : Addr} : ∀ {st : List Addr} {L : List (Kd × Kd)}, PairsAt H (st ++ [a]) L → ∃ M p k x y, L = M ++ [(p, k)] ∧ PairsAt H st M ∧ H a = some (.tup [x, y]) ∧ p.At H x ∧ k.At H y
  | [], _, ⟨p, k, x, y, M, e, h1, h2, h3, h4⟩ => by
    have z : M = [] := h4
    subst z
    exact ⟨[], p, k, x, y, e, rfl, h1, h2, h3⟩
  | b :: st, _, ⟨p, k, x, y, M, e, h1, h2, h3, h4⟩ => by
    obtain ⟨M2, p2, k2, x2, y2, e2, g1, g2, g3, g4⟩ := PairsAt.snoc h4
    subst e2
    exact ⟨(p, k) :: M2, p2, k2, x2, y2, e, ⟨p, k, x, y, M2, rfl, h1, h2, h3, g1⟩, g2, g3, g4⟩
theorem PairsAt.zip {H : Hp} : ∀ {bs : List Addr} {l m : List Kd} {xs ys : List V}, Kd.Ats H l xs → Kd.Ats H m ys → bs.length = xs.length → xs.length = ys.length →
    (∀ (j : Nat) (t : Addr), bs[j]? = some t → ∃ x y, xs[j]? = some x ∧ ys[j]? = some y ∧ H t = some (.tup [x, y])) → PairsAt H bs (l.zip m)
  | [], l, m, xs, ys, h1, h2, e1, e2, _ => by
    have z1 := h1.len
    have e1 : 0 = xs.length := e1
    have z : l = [] := List.length_eq_zero_iff.mp (by omega)
    subst z
    rfl
  | b :: bs, [], m, xs, ys, h1, h2, e1, e2, _ => by
    have z : xs = [] := h1
    subst z
    cases e1
  | b :: bs, k :: l, [], xs, ys, h1, h2, e1, e2, _ => by
    have z : ys = [] := h2
    subst z
    rw [e2] at e1
    cases e1
  | b :: bs, k :: l, n :: m, xs, ys, ⟨x, xs', ex, hx, hxs⟩, ⟨y, ys', ey, hy, hys⟩, e1, e2, h => by
    subst ex ey
    obtain ⟨x0, y0, g1, g2, g3⟩ := h 0 b rfl
    have g1 : x = x0 := Option.some.inj g1
    have g2 : y = y0 := Option.some.inj g2
    subst g1 g2
    exact ⟨k, n, x, y, l.zip m, rfl, g3, hx, hy, PairsAt.zip hxs hys (Nat.succ.inj e1) (Nat.succ.inj e2) fun j t ht => h (j + 1) t ht⟩
/-- the four metas -/
def six : List Int := [0, 1, 2, 3]
theorem six_of {m : Int} (h0 : 0 ≤ m) (h6 : m < 4) : m ∈ six := by
  have e : m = 0 ∨ m = 1 ∨ m = 2 ∨ m = 3 := by omega
  rcases e with e | e | e | e <;> (rw [e]; decide)
/-- only of the four metas -/
def inS (k : Kd) : Prop := ∀ m, k.hasM m → m ∈ six
structure Kr (κ : Kn) : Prop where
  dom : ∀ q ∈ κ, q.1 ∈ six
  ins : ∀ q ∈ κ, inS q.2
  size : ∀ q ∈ κ, q.2.size ≤ 1000
theorem Kr.len {κ : Kn} (h : Kr κ) (n : (κ.map (·.1)).Nodup) : κ.length ≤ 4 := by
  have z := nodupI_len (m := six) n fun s hs => by
    obtain ⟨q, hq, e⟩ := List.mem_map.mp hs
    rw [← e]; exact h.dom q hq
  rw [List.length_map] at z
  exact z
theorem Kr.add {κ : Kn} {m : Int} {t : Kd} (h : Kr κ) (hm : m ∈ six) (ht : inS t) (hs : t.size ≤ 1000) : Kr (κ ++ [(m, t)]) := ⟨fun q hq => (List.mem_append.mp hq).elim (h.dom q) fun e => by rw [List.mem_singleton.mp e]; exact hm,
  fun q hq => (List.mem_append.mp hq).elim (h.ins q) fun e => by rw [List.mem_singleton.mp e]; exact ht,
  fun q hq => (List.mem_append.mp hq).elim (h.size q) fun e => by rw [List.mem_singleton.mp e]; exact hs⟩
theorem Keep.same {p : Addr} {H H' : Hp} (s : Same H H') : Keep p H H' := fun b o _ e => s b o e
theorem Keep.trans {p : Addr} {H1 H2 H3 : Hp} (h : Keep p H1 H2) (k : Keep p H2 H3) : Keep p H1 H3 := fun b o n e => k b o n (h b o n e)
end Toy

set_option Elab.async false
set_option linter.all false
set_option maxRecDepth 100000
set_option maxHeartbeats 4000000
/-! Part G: types made equal. -/
namespace Toy
open PySem L2
open PyProof.Rows (envOfC)
theorem mss_len (f : Int → Kd) : ∀ l : List Kd, (Kd.mss f l).length = l.length
  | [] => rfl
  | k :: l => by rw [Kd.mss, List.length_cons, List.length_cons, mss_len f l]
theorem mss_zip (f : Int → Kd) : ∀ l m : List Kd, l.length = m.length → (Kd.mss f l = Kd.mss f m ↔ ∀ q ∈ l.zip m, q.1.ms f = q.2.ms f)
  | [], [], _ => by simp
  | [], _ :: _, h => by cases h
  | _ :: _, [], h => by cases h
  | k :: l, n :: m, h => by
    rw [Kd.mss, Kd.mss, List.cons.injEq, mss_zip f l m (Nat.succ.inj h), List.zip_cons_cons, List.forall_mem_cons]
theorem alike_no' (f : Int → Kd) : ∀ p k : Kd, p.isM = false → k.isM = false → p.ms f = k.ms f → p.alike k = true
  | .mt _, _, h, _, _ => by cases h
  | .nm s, k, _, hk, e => by
    cases k with
    | nm t =>
      have e : Kd.nm s = Kd.nm t := e
      injection e with e
      show (s == t) = true
      rw [e, beq_self_eq_true]
    | mt i => cases hk
    | fn a b => cases e
    | cn t m => cases e
  | .fn a b, k, _, hk, e => by
    cases k with
    | nm t => cases e
    | mt i => cases hk
    | fn c d => rfl
    | cn t m => cases e
  | .cn s l, k, _, hk, e => by
    cases k with
    | nm t => cases e
    | mt i => cases hk
    | fn c d => cases e
    | cn t m =>
      have e : Kd.cn s (Kd.mss f l) = Kd.cn t (Kd.mss f m) := e
      injection e with e1 e2
      have e3 : l.length = m.length := by rw [← mss_len f l, e2, mss_len]
      show (l.length == m.length && s == t) = true
      rw [e3, e1, beq_self_eq_true, beq_self_eq_true]
      rfl
theorem alike_yes' (f : Int → Kd) : ∀ p k : Kd, p.isM = false → p.alike k = true → p.parts.length = k.parts.length ∧ ((∀ q ∈ p.parts.zip k.parts, q.1.ms f = q.2.ms f) ↔ p.ms f = k.ms f)
  | .mt _, _, h, _ => by cases h
  | .nm s, k, _, h => by
    cases k with
    | nm t =>
      have e : s = t := by simpa [Kd.alike] using h
      subst e
      exact ⟨rfl, by simp [Kd.parts]⟩
    | _ => cases h
  | .fn a b, k, _, h => by
    cases k with
    | fn c d => exact ⟨rfl, by simp [Kd.parts, Kd.ms]⟩
    | _ => cases h
  | .cn s l, k, _, h => by
    cases k with
    | cn t m =>
      have e : l.length = m.length ∧ s = t := by simpa [Kd.alike] using h
      obtain ⟨e1, e2⟩ := e
      subst e2
      refine ⟨e1, ?_⟩
      have z := mss_zip f l m e1
      show (∀ q ∈ l.zip m, q.1.ms f = q.2.ms f) ↔ Kd.cn s (Kd.mss f l) = Kd.cn s (Kd.mss f m)
      exact ⟨fun q => by rw [z.mpr q], fun q => z.mp (by injection q)⟩
    | _ => cases h
theorem ms_parts (f : Int → Kd) : ∀ p : Kd, p.isM = false → (p.ms f).size = 1 + Kd.sizes (Kd.mss f p.parts)
  | .mt _, h => by cases h
  | .nm s, _ => rfl
  | .fn a b, _ => by
    show 1 + (a.ms f).size + (b.ms f).size = 1 + ((a.ms f).size + ((b.ms f).size + 0))
    omega
  | .cn s l, _ => rfl
/-- how much there is still to make equal -/
def psum (f : Int → Kd) : List (Kd × Kd) → Nat
  | [] => 0
  | q :: L => (q.1.ms f).size + psum f L
theorem psum_app (f : Int → Kd) : ∀ a b, psum f (a ++ b) = psum f a + psum f b
  | [], b => by rw [List.nil_append, psum, Nat.zero_add]
  | q :: a, b => by rw [List.cons_append, psum, psum, psum_app f a b, Nat.add_assoc]
theorem psum_zip (f : Int → Kd) : ∀ l m : List Kd, psum f (l.zip m) ≤ Kd.sizes (Kd.mss f l)
  | [], m => by rw [List.zip_nil_left]; exact Nat.le_refl _
  | k :: l, [] => by rw [List.zip_nil_right]; exact Nat.zero_le _
  | k :: l, n :: m => by
    have := psum_zip f l m
    rw [List.zip_cons_cons]
    show (k.ms f).size + psum f (l.zip m) ≤ (k.ms f).size + Kd.sizes (Kd.mss f l)
    omega
theorem psum_len (f : Int → Kd) : ∀ L, L.length ≤ psum f L
  | [] => Nat.le_refl _
  | q :: L => by
    have := psum_len f L
    have := size_pos (q.1.ms f)
    show L.length + 1 ≤ (q.1.ms f).size + psum f L
    omega
theorem inS_part : ∀ {k c : Kd}, c ∈ k.parts → inS k → inS c
  | .nm s, c, h, _ => by cases h
  | .mt i, c, h, _ => by cases h
  | .fn a b, c, h, hi => fun m hm => by
    rcases List.mem_cons.mp h with e | e
    · rw [e] at hm; exact hi m (.inl hm)
    · rw [List.mem_singleton.mp e] at hm; exact hi m (.inr hm)
  | .cn s l, c, h, hi => fun m hm => hi m (hass_in (show c ∈ l from h) hm)
where hass_in : ∀ {l : List Kd} {c : Kd} {m : Int}, c ∈ l → c.hasM m → Kd.hasMs m l
  | k :: l, c, m, hc, h => by
    show k.hasM m ∨ Kd.hasMs m l
    rcases List.mem_cons.mp hc with e | e
    · rw [← e]; exact .inl h
    · exact .inr (hass_in e h)
/-- what is shown is one with what it was -/
theorem shown_ms {θ R : Int → Kd} {u : Int → Nat} {κ : Kn} (h : Uni θ R u κ) {k t : Kd} (e : ∀ S, Solves' S κ → k.ms S = t.ms S) : t.ms θ = k.ms θ := by
  rw [← h.resound t, ← h.resound k, e R h.solves]
structure TxtG (mg : Str → Option Value) : Prop where
  zlist : mg "list" = none
  zzip : mg "zip" = none
section
variable {P : Program} {w : World} {K : PySem.W.Frag} {mg : Str → Option Value} {base : Heap} {C : Addr}
abbrev sResolve : Stmt := inClass (topS 9) 2
theorem scResolve : FnScope ["self", "kind"] ["self", "kind"] (defScope sResolve) := ⟨rfl, rfl, rfl, by decide +kernel, rfl, by decide +kernel, by decide +kernel⟩
def spResolve (C : Addr) : Sp := fun vs H Q _ => ∃ (o d : Addr) (n : Int) (κ : Kn) (v : V) (k : Kd) (θ R : Int → Kd) (uu : Int → Nat), vs = [.ref o, v] ∧ Un C H o d n κ ∧ Uni θ R uu κ ∧ k.At H v ∧ (k.ms θ).size ≤ 20000 ∧ ∀ (u : V) (H' : Hp), Same H H' → (k.ms R).At H' u → Q u H'
theorem c_resolve {f : Addr} {fd : FuncData} (T : TxtU K mg C) (creplace_leaves : C8.Cal P w K mg base 2 "replace_leaves" spRepl []) (me : Meth K C "resolve" f) (F : Fun K "resolve" "Unifier.resolve" sResolve f fd) (b : Binds K fd ["self", "kind"] []) : C8.Met P w K mg base 3 C "resolve" (spResolve C) [] := by
  refine met_of T.cl me F b scResolve (fun vs H Q E h => ?_) (fun cdv A outer s H vs Q E hr h => ?_)
  · obtain ⟨o, d, n, κ, v, k, θ, R, uu, rfl, _⟩ := h
    rfl
  obtain ⟨o, d, n, κ, v, k, θ, R, uu, rfl, ⟨dx, kvs, ho, hd, hK⟩, hU, hk, hsz, q⟩ := h
  refine ⟨_, (pss_one (ps_ret (C8.pe_c creplace_leaves hr (by decide) rfl (pa_cons (pv 1) (pa_cons pe_str (pa_cons (pe_fld (pv 0) rfl) (pa_cons pe_bl pa_nil))))))), ?_⟩
  exact ⟨_, rfl, _, rfl, o, C, dx, _, .ref d, rfl, ho, T.cl, T.nK, fldU_known n d, v, d, k, kvs, κ, θ, R, uu, rfl, hk, hsz, hd, hK, hU, fun u H' s hu => q u H' s hu⟩
abbrev sFresh : Stmt := inClass (topS 9) 1
theorem scFresh : FnScope ["self", "number"] ["self"] (defScope sFresh) := ⟨rfl, rfl, rfl, by decide +kernel, rfl, by decide +kernel, by decide +kernel⟩
def spFresh (C : Addr) : Sp := fun vs H Q _ => ∃ (o d : Addr) (n : Int) (κ : Kn), vs = [.ref o] ∧ Un C H o d n κ ∧ 0 ≤ n ∧ n < 100 ∧ ∀ (u : V) (H' : Hp), Keep o H H' → Un C H' o d (n + 1) κ → (Kd.mt n).At H' u → Q u H'
theorem c_fresh {f : Addr} {fd : FuncData} (T : TxtU K mg C) (me : Meth K C "fresh" f) (F : Fun K "fresh" "Unifier.fresh" sFresh f fd) (b : Binds K fd ["self"] []) : C8.Met P w K mg base 1 C "fresh" (spFresh C) [] := by
  refine met_of T.cl me F b scFresh (fun vs H Q E h => ?_) (fun cdv A outer s H vs Q E hr h => ?_)
  · obtain ⟨o, d, n, κ, rfl, _⟩ := h
    rfl
  obtain ⟨o, d, n, κ, rfl, ⟨dx, kvs, ho, hd, hK⟩, h0, h100, q⟩ := h
  refine ⟨_, (pss_cons (ps_set (i := 1) scFresh.nd rfl (Or.inl rfl) (pe_fld (pv 0) rfl))
    (pss_cons (ps_fldaug (pv 0) pe_int ip_add)
    (pss_one (ps_ret (pe_tup (pa_cons pe_str (pa_cons (pv 1) pa_nil))))))), ?_⟩
  refine ⟨_, rfl, o, C, dx, _, .int n, rfl, ho, T.cl, T.nM, fldU_made n d, ?_⟩
  have lu : (fldU n d).length < 1000 := by show 2 < 1000; decide
  refine ⟨_, rfl, o, C, dx, _, .int n, rfl, ho, T.cl, T.nM, fldU_made n d, n, 1, rfl, rfl, dx, _, ho, lu, ?_⟩
  rw [fldU_put]
  have nod : o ≠ d := fun e => by rw [e, hd] at ho; cases ho
  refine ⟨_, rfl, by show 2 ≤ sizeLine; decide, fun t ht => ?_⟩
  have k1 : Keep o H (upd H o (.ins C dx (fldU (n + 1) d))) := fun b u nb e => by rw [upd_ne nb]; exact e
  have t1 : TK H (upd H o (.ins C dx (fldU (n + 1) d))) := tk_upd fun xs e => by rw [ho] at e; cases e
  have s2 := same_new ht (.tup [.str "meta", .int n])
  exact q _ _ (k1.trans (Keep.same s2)) ⟨dx, kvs, s2 _ _ upd_same, s2 _ _ (by rw [upd_ne nod.symm]; exact hd), (hK.keep t1).keep (tk_same s2)⟩ ⟨t, rfl, upd_same⟩
abbrev sInit : Stmt := inClass (topS 9) 0
theorem scInit : FnScope ["self"] ["self"] (defScope sInit) := ⟨rfl, rfl, rfl, by decide +kernel, rfl, by decide +kernel, by decide +kernel⟩
def spInit (C : Addr) : Sp := fun vs H Q _ => ∃ (o dx : Addr), vs = [.ref o] ∧ H o = some (.ins C dx []) ∧ ∀ (d : Addr) (H' : Hp), H d = none → Un C H' o d 0 [] → (∀ b u, H b = some u → b ≠ o → H' b = some u) → Q .non H'
theorem c_init {f : Addr} {fd : FuncData} (T : TxtU K mg C) (M : Mk K C f) (mC : mg "Unifier" = some (.ref C)) (F : Fun K "__init__" "Unifier.__init__" sInit f fd) (b : Binds K fd ["self"] []) : C8.Mak P w K mg base 1 "Unifier" C (spInit C) [] := by
  refine ⟨f, fd, ["self"], [], M, F.ok scInit (fun vs H Q E h => ?_) (fun cdv A outer s H vs Q E hr h => ?_), mC, b, .nil⟩
  · obtain ⟨o, dx, rfl, _⟩ := h
    rfl
  obtain ⟨o, dx, rfl, ho, q⟩ := h
  refine ⟨_, (pss_cons (ps_fld (pv 0) pe_int rfl)
    (pss_one (ps_fld (pv 0) pe_dnewK rfl))), ?_⟩
  refine ⟨_, rfl, o, C, dx, [], rfl, ho, T.cl, T.nM, (by show 0 < 1000; decide), ?_⟩
  intro d hd
  have nod : o ≠ d := fun e => by rw [← e, upd_same] at hd; cases hd
  have hd0 : H d = none := by rw [upd_ne nod.symm] at hd; exact hd
  refine ⟨_, rfl, o, C, dx, _, rfl, (by rw [upd_ne nod, upd_same]), T.cl, T.nK, (by show 1 < 1000; decide), ?_⟩
  refine q d _ hd0 ⟨dx, [], upd_same, ?_, rfl⟩ fun x u hx hxo => ?_
  · rw [upd_ne nod.symm, upd_same]
  · rw [upd_ne hxo, upd_ne (ne_of_none hx hd0), upd_ne hxo]
    exact hx
end
end Toy

set_option Elab.async false
set_option linter.all false
set_option maxRecDepth 100000
set_option maxHeartbeats 4000000
/-! Part H: the law's drawing of types. -/
namespace Toy
open PySem L2
open PyProof.Rows (envOfC)
theorem pe_mk0 {X : Cx} {x : Str} {C : Addr} {sp : Sp} {dvs : List V} {k j : Nat} {p pos : Pos} (c : C8.Mak X.prog X.w X.K X.mg X.base k x C sp dvs) (hr : Room j X.A) (hk : k + 1 ≤ j) (hg : Gl X x) (hdb : (x == ("__debug__" : Str)) = false := by decide) : PE X (.Call (.Name x p) [] [] pos) (tMake C sp dvs C8.E0 tNil) := by
  obtain ⟨f, fd, ps, ds, M, F, hm, b, d⟩ := c.ex
  exact pe_make0 M F (hr.mono hk) hg hm b d C8.pass0 hdb
mutual
/-- at most two parts, everywhere -/
def Kd.bin : Kd → Prop
  | .nm _ => True
  | .mt _ => True
  | .fn a b => a.bin ∧ b.bin
  | .cn _ l => l.length ≤ 2 ∧ Kd.bins l
def Kd.bins : List Kd → Prop
  | [] => True
  | k :: l => k.bin ∧ Kd.bins l
end
/-- what is drawn at a depth, with metas or without -/
structure Gm (mt : Int) (d : Nat) (k : Kd) : Prop where
  lay : k.lay = true
  dep : k.dep ≤ d
  size : ∀ e, d = e + 1 → k.size + 1 ≤ 2 ^ d
  has : ∀ m, k.hasM m → m ∈ six ∧ mt = 4
  bin : k.bin
theorem pow1 (d : Nat) : 1 ≤ 2 ^ d := Nat.one_le_two_pow
theorem pow2 {d e : Nat} (h : d = e + 1) : 2 ≤ 2 ^ d := by
  have := pow1 e
  rw [h, Nat.pow_succ]
  omega
theorem gm_nm {mt : Int} {d : Nat} {s : Str} (h : PyData.strOk s = true) : Gm mt d (.nm s) := ⟨h, Nat.zero_le _, fun e h => pow2 h, fun m h => (show False from h).elim, trivial⟩
theorem gm_mt {mt : Int} {d : Nat} {i : Int} (h6 : mt = 4) (h : i ∈ six) : Gm mt d (.mt i) := ⟨rfl, Nat.zero_le _, fun e h => pow2 h, fun m e => by
    have e : i = m := e
    rw [← e]
    exact ⟨h, h6⟩, trivial⟩
theorem gm_c0 {mt : Int} {d : Nat} {s : Str} (h : PyData.strOk s = true) : Gm mt (d + 1) (.cn s []) := ⟨by show (PyData.strOk s && true) = true; rw [h]; rfl, by show 1 + 0 ≤ _; omega, fun e h => pow2 h, fun m h => (show False from h).elim, Nat.zero_le _, trivial⟩
theorem gm_fn {mt : Int} {d : Nat} {a b : Kd} (h : Gm mt (d + 1) a) (k : Gm mt (d + 1) b) : Gm mt (d + 1 + 1) (.fn a b) := ⟨by show (a.lay && b.lay) = true; rw [h.lay, k.lay]; rfl, by
  have := h.dep
  have := k.dep
  show 1 + max a.dep b.dep ≤ _
  omega, fun e _ => by
  have := h.size d rfl
  have := k.size d rfl
  show 1 + a.size + b.size + 1 ≤ _
  rw [Nat.pow_succ 2 (d + 1)]
  omega, fun m e => (show a.hasM m ∨ b.hasM m from e).elim (h.has m) (k.has m), h.bin, k.bin⟩
theorem gm_c1 {mt : Int} {d : Nat} {s : Str} {a : Kd} (e : PyData.strOk s = true) (h : Gm mt (d + 1) a) : Gm mt (d + 1 + 1) (.cn s [a]) := ⟨by show (PyData.strOk s && (a.lay && true)) = true; rw [e, h.lay]; rfl, by
  have := h.dep
  show 1 + max a.dep 0 ≤ _
  omega, fun e _ => by
  have := h.size d rfl
  have := pow1 (d + 1)
  show 1 + (a.size + 0) + 1 ≤ _
  rw [Nat.pow_succ 2 (d + 1)]
  omega, fun m e => (show a.hasM m ∨ False from e).elim (h.has m) fun z => z.elim, by show 1 ≤ 2; decide, h.bin, trivial⟩
theorem gm_c2 {mt : Int} {d : Nat} {s : Str} {a b : Kd} (e : PyData.strOk s = true) (h : Gm mt (d + 1) a) (k : Gm mt (d + 1) b) : Gm mt (d + 1 + 1) (.cn s [a, b]) := ⟨by show (PyData.strOk s && (a.lay && (b.lay && true))) = true; rw [e, h.lay, k.lay]; rfl, by
  have := h.dep
  have := k.dep
  show 1 + max a.dep (max b.dep 0) ≤ _
  omega, fun e _ => by
  have := h.size d rfl
  have := k.size d rfl
  show 1 + (a.size + (b.size + 0)) + 1 ≤ _
  rw [Nat.pow_succ 2 (d + 1)]
  omega, fun m e => (show a.hasM m ∨ b.hasM m ∨ False from e).elim (h.has m) fun z => z.elim (k.has m) fun z => z.elim, Nat.le_refl _, h.bin, k.bin, trivial⟩
theorem ok_a : PyData.strOk "a" = true := by decide +kernel
theorem ok_b : PyData.strOk "b" = true := by decide +kernel
theorem ok_int : PyData.strOk "Int" = true := by decide +kernel
theorem ok_bool : PyData.strOk "Bool" = true := by decide +kernel
theorem ok_list : PyData.strOk "List" = true := by decide +kernel
theorem ok_pair : PyData.strOk "Pair" = true := by decide +kernel
/-- four values, one of them taken -/
theorem at4 {a b c d : V} {i : Int} (h0 : 0 ≤ i) (h4 : i < 4) (G : V → Prop) (ha : G a) (hb : G b) (hc : G c) (hd : G d) : ∃ v, atI [a, b, c, d] i = some v ∧ G v := by
  have e : i = 0 ∨ i = 1 ∨ i = 2 ∨ i = 3 := by omega
  rcases e with e | e | e | e
  · exact ⟨a, by rw [e]; exact atI_nat (j := 0) rfl, ha⟩
  · exact ⟨b, by rw [e]; exact atI_nat (j := 1) rfl, hb⟩
  · exact ⟨c, by rw [e]; exact atI_nat (j := 2) rfl, hc⟩
  · exact ⟨d, by rw [e]; exact atI_nat (j := 3) rfl, hd⟩
section
variable {P : Program} {w : World} {K : PySem.W.Frag} {mg : Str → Option Value} {base : Heap}
/-- a def of which nothing is asked -/
theorem cal_none {x : Str} {st : Stmt} {f : Addr} {fd : FuncData} {ps : List Str} {k : Nat} {sp : Sp} (F : Fun K x x st f fd) (hm : mg x = some (.ref f)) (b : Binds K fd ps []) (no : ∀ vs H Q E, ¬ sp vs H Q E) : C8.Cal P w K mg base k x sp [] :=
  ⟨f, fd, ps, [], ⟨fun vs H Q E h => (no _ _ _ _ h).elim, fun A outer s H args us vs Q E hr e0 hb r hsp => (no _ _ _ _ hsp).elim⟩, hm, F.kp, b, .nil⟩
abbrev sKind : Stmt := topS 14
theorem scKind : FnScope ["draws", "depth", "metas", "pick"] ["draws", "depth", "metas"] (defScope sKind) := ⟨rfl, rfl, rfl, by decide +kernel, rfl, by decide +kernel, by decide +kernel⟩
def spKind (n : Nat) : Sp := fun vs H Q _ => ∃ (p r : Addr) (d : Nat) (mt : Int), vs = [.ref p, .int (d : Int), .int mt] ∧ d < n ∧ (mt = 0 ∨ mt = 4) ∧ DrawsAt H p r ∧ ∀ (v : V) (k : Kd) (H' : Hp), Keep p H H' → DrawsAt H' p r → k.At H' v → Gm mt (d + 1) k → Q v H'
theorem c_kind {f : Addr} {fd : FuncData} (T : TxtD mg) (c_law_next : C8.Cal P w K mg base 2 "_law_next" spNext []) (F : Fun K "_law_kind" "_law_kind" sKind f fd) (b : Binds K fd ["draws", "depth", "metas"] []) (hm : mg "_law_kind" = some (.ref f)) : ∀ n : Nat, C8.Cal P w K mg base (n + 2) "_law_kind" (spKind n) []
  | 0 => cal_none F hm b fun vs H Q E ⟨p, r, d, mt, _, h, _⟩ => Nat.not_lt_zero _ h
  | n + 1 => by
    have c_law_kind := c_kind T c_law_next F b hm n
    refine cal_of F hm b scKind (fun vs H Q E h => ?_) (fun cdv A outer s H vs Q E hr h => ?_)
    · obtain ⟨p, r, d, mt, rfl, _⟩ := h
      rfl
    obtain ⟨p, r, d, mt, rfl, hdn, hmt, hD, q⟩ := h
    refine ⟨_, (pss_cons (ps_set (i := 3) scKind.nd rfl (Or.inl rfl) (C8.pe_c c_law_next hr (by omega) rfl (pa_cons (pv 0) (pa_cons pe_int pa_nil))))
    (pss_cons (ps_if (PW.pt (pw_or (pt_cmpR op_eq (pv 1) pe_int (nomark _)) (pw_or1 (pt_cmpR op_lt (pv 3) pe_int (nomark _)))))
      (pss_cons (ps_if (PW.pt (pw_and (pt_cmpR op_eq (pe_op op_mod (pv 3) pe_int) pe_int (nomark _)) (pw_and1 (pt_cmpR op_gt (pv 2) pe_int (nomark _)))))
      (pss_one (ps_ret (pe_tup (pa_cons pe_str (pa_cons (C8.pe_c c_law_next hr (by omega) rfl (pa_cons (pv 0) (pa_cons (pv 2) pa_nil))) pa_nil)))))
      pss_nil)
    (pss_one (ps_ret (pe_ix ix_list (pe_lst (pa_cons (pe_tup (pa_cons pe_str (pa_cons pe_str pa_nil))) (pa_cons (pe_tup (pa_cons pe_str (pa_cons pe_str pa_nil))) (pa_cons (pe_tup (pa_cons pe_str (pa_cons pe_str (pa_cons (pe_tup pa_nil) pa_nil)))) (pa_cons (pe_tup (pa_cons pe_str (pa_cons pe_str (pa_cons (pe_tup pa_nil) pa_nil)))) pa_nil))))) (C8.pe_c c_law_next hr (by omega) rfl (pa_cons (pv 0) (pa_cons pe_int pa_nil))) (fun _ _ => rfl)))))
      pss_nil)
    (pss_cons (ps_if (pt_cmpR op_lt (pv 3) pe_int (nomark _))
      (pss_one (ps_ret (pe_tup (pa_cons pe_str (pa_cons (C8.pe_c c_law_kind hr (by omega) rfl (pa_cons (pv 0) (pa_cons (pe_op op_sub (pv 1) pe_int) (pa_cons (pv 2) pa_nil)))) (pa_cons (C8.pe_c c_law_kind hr (by omega) rfl (pa_cons (pv 0) (pa_cons (pe_op op_sub (pv 1) pe_int) (pa_cons (pv 2) pa_nil)))) pa_nil))))))
      pss_nil)
    (pss_cons (ps_if (pt_cmpR op_eq (pv 3) pe_int (nomark _))
      (pss_one (ps_ret (pe_tup (pa_cons pe_str (pa_cons pe_str (pa_cons (pe_tup (pa_cons (C8.pe_c c_law_kind hr (by omega) rfl (pa_cons (pv 0) (pa_cons (pe_op op_sub (pv 1) pe_int) (pa_cons (pv 2) pa_nil)))) pa_nil)) pa_nil))))))
      pss_nil)
    (pss_one (ps_ret (pe_tup (pa_cons pe_str (pa_cons pe_str (pa_cons (pe_tup (pa_cons (C8.pe_c c_law_kind hr (by omega) rfl (pa_cons (pv 0) (pa_cons (pe_op op_sub (pv 1) pe_int) (pa_cons (pv 2) pa_nil)))) (pa_cons (C8.pe_c c_law_kind hr (by omega) rfl (pa_cons (pv 0) (pa_cons (pe_op op_sub (pv 1) pe_int) (pa_cons (pv 2) pa_nil)))) pa_nil))) pa_nil)))))))))), ?_⟩
    refine ⟨_, rfl, p, r, 9, rfl, by decide, hD, fun pick H1 h0 h9 k1 d1 => ?_⟩
    refine ⟨_, rfl, rfl, _, rfl, ?_⟩
    by_cases hd0 : d = 0
    · have z : decide (V.int (d : Int) = V.int 0) = true := by rw [hd0]; exact decide_eq_true rfl
      show if decide (V.int (d : Int) = V.int 0) = true then _ else _
      rw [z]
      refine iteT (iteT ?_)
      refine ⟨_, rfl, _, _, rfl, rfl, (show (0 : Int) < 2 by decide), rfl, _, rfl, ?_⟩
      refine ite2 (fun _ => ?_) (fun _ => ?_)
      · refine ⟨_, rfl, _, _, rfl, rfl, _, rfl, ?_⟩
        by_cases hm4 : mt = 4
        · have z6 : decide ((0 : Int) < mt) = true := by rw [hm4]; decide
          rw [z6]
          refine iteT ?_
          refine ⟨_, rfl, _, rfl, p, r, mt, rfl, by omega, d1, fun m H2 m0 m6 k2 d2 => ?_⟩
          refine ⟨by show 2 ≤ sizeLine; decide, fun t ht => ?_⟩
          exact q _ (.mt m) _ (k1.trans (k2.trans (Keep.same (same_new ht _)))) (d2.same (same_new ht _)) ⟨t, rfl, upd_same⟩ (gm_mt hm4 (six_of m0 (by omega)))
        · have z6 : decide ((0 : Int) < mt) = false := by rw [hmt.resolve_right hm4]; decide
          rw [z6]
          refine iteF ?_
          refine ⟨by show 2 ≤ sizeLine; decide, fun p1 hp1 => ?_⟩
          have s1 := same_new hp1 (.tup [.str "name", .str "a"])
          have e1 : upd H1 p1 (.tup [.str "name", .str "a"]) p1 = some (.tup [.str "name", .str "a"]) := upd_same
          generalize upd H1 p1 (.tup [.str "name", .str "a"]) = G1 at s1 e1 ⊢
          refine ⟨by show 2 ≤ sizeLine; decide, fun p2 hp2 => ?_⟩
          have s2 := same_new hp2 (.tup [.str "name", .str "b"])
          have e2 : upd G1 p2 (.tup [.str "name", .str "b"]) p2 = some (.tup [.str "name", .str "b"]) := upd_same
          generalize upd G1 p2 (.tup [.str "name", .str "b"]) = G2 at s2 e2 ⊢
          refine ⟨by show 0 ≤ sizeLine; decide, fun n3 hn3 => ?_⟩
          have s3 := same_new hn3 (.tup [])
          have e3 : upd G2 n3 (.tup []) n3 = some (.tup []) := upd_same
          generalize upd G2 n3 (.tup []) = G3 at s3 e3 ⊢
          refine ⟨by show 3 ≤ sizeLine; decide, fun p4 hp4 => ?_⟩
          have s4 := same_new hp4 (.tup [.str "con", .str "Int", .ref n3])
          have e4 : upd G3 p4 (.tup [.str "con", .str "Int", .ref n3]) p4 = some (.tup [.str "con", .str "Int", .ref n3]) := upd_same
          generalize upd G3 p4 (.tup [.str "con", .str "Int", .ref n3]) = G4 at s4 e4 ⊢
          refine ⟨by show 0 ≤ sizeLine; decide, fun n5 hn5 => ?_⟩
          have s5 := same_new hn5 (.tup [])
          have e5 : upd G4 n5 (.tup []) n5 = some (.tup []) := upd_same
          generalize upd G4 n5 (.tup []) = G5 at s5 e5 ⊢
          refine ⟨by show 3 ≤ sizeLine; decide, fun p6 hp6 => ?_⟩
          have s6 := same_new hp6 (.tup [.str "con", .str "Bool", .ref n5])
          have e6 : upd G5 p6 (.tup [.str "con", .str "Bool", .ref n5]) p6 = some (.tup [.str "con", .str "Bool", .ref n5]) := upd_same
          generalize upd G5 p6 (.tup [.str "con", .str "Bool", .ref n5]) = G6 at s6 e6 ⊢
          refine ⟨by show 4 ≤ sizeLine; decide, fun l hl => ?_⟩
          have s7 := same_new hl (.lst [.ref p1, .ref p2, .ref p4, .ref p6])
          have e7 : upd G6 l (.lst [.ref p1, .ref p2, .ref p4, .ref p6]) l = some (.lst [.ref p1, .ref p2, .ref p4, .ref p6]) := upd_same
          generalize upd G6 l (.lst [.ref p1, .ref p2, .ref p4, .ref p6]) = G7 at s7 e7 ⊢
          have s17 : Same H1 G7 := fun b o e => s7 _ _ (s6 _ _ (s5 _ _ (s4 _ _ (s3 _ _ (s2 _ _ (s1 _ _ e))))))
          refine ⟨_, rfl, p, r, 4, rfl, by decide, d1.same s17, fun m H2 m0 m4 k2 d2 => ?_⟩
          have t2 : TK G7 H2 := tk_keep k2 (d1.same s17).notup
          have nl : l ≠ p := fun e => by
            obtain ⟨_, _, _, z, _⟩ := d1.same s17
            rw [← e, e7] at z
            cases z
          obtain ⟨v, hv, k, hk, gk⟩ := at4 (a := .ref p1) (b := .ref p2) (c := .ref p4) (d := .ref p6) m0 m4 (fun v => ∃ k : Kd, k.At H2 v ∧ Gm mt (d + 1) k)
            ⟨.nm "a", ⟨p1, rfl, t2 _ _ (s7 _ _ (s6 _ _ (s5 _ _ (s4 _ _ (s3 _ _ (s2 _ _ e1))))))⟩, gm_nm ok_a⟩
            ⟨.nm "b", ⟨p2, rfl, t2 _ _ (s7 _ _ (s6 _ _ (s5 _ _ (s4 _ _ (s3 _ _ e2)))))⟩, gm_nm ok_b⟩
            ⟨.cn "Int" [], ⟨p4, n3, [], rfl, t2 _ _ (s7 _ _ (s6 _ _ (s5 _ _ e4))), t2 _ _ (s7 _ _ (s6 _ _ (s5 _ _ (s4 _ _ e3)))), rfl⟩, gm_c0 ok_int⟩
            ⟨.cn "Bool" [], ⟨p6, n5, [], rfl, t2 _ _ (s7 _ _ e6), t2 _ _ (s7 _ _ (s6 _ _ e5)), rfl⟩, gm_c0 ok_bool⟩
          refine ⟨l, _, m, v, rfl, rfl, SqL.of (k2 _ _ nl e7), hv, ?_⟩
          exact q v k H2 (k1.trans ((Keep.same s17).trans k2)) d2 hk gk
      · refine iteF ?_
        refine ⟨by show 2 ≤ sizeLine; decide, fun p1 hp1 => ?_⟩
        have s1 := same_new hp1 (.tup [.str "name", .str "a"])
        have e1 : upd H1 p1 (.tup [.str "name", .str "a"]) p1 = some (.tup [.str "name", .str "a"]) := upd_same
        generalize upd H1 p1 (.tup [.str "name", .str "a"]) = G1 at s1 e1 ⊢
        refine ⟨by show 2 ≤ sizeLine; decide, fun p2 hp2 => ?_⟩
        have s2 := same_new hp2 (.tup [.str "name", .str "b"])
        have e2 : upd G1 p2 (.tup [.str "name", .str "b"]) p2 = some (.tup [.str "name", .str "b"]) := upd_same
        generalize upd G1 p2 (.tup [.str "name", .str "b"]) = G2 at s2 e2 ⊢
        refine ⟨by show 0 ≤ sizeLine; decide, fun n3 hn3 => ?_⟩
        have s3 := same_new hn3 (.tup [])
        have e3 : upd G2 n3 (.tup []) n3 = some (.tup []) := upd_same
        generalize upd G2 n3 (.tup []) = G3 at s3 e3 ⊢
        refine ⟨by show 3 ≤ sizeLine; decide, fun p4 hp4 => ?_⟩
        have s4 := same_new hp4 (.tup [.str "con", .str "Int", .ref n3])
        have e4 : upd G3 p4 (.tup [.str "con", .str "Int", .ref n3]) p4 = some (.tup [.str "con", .str "Int", .ref n3]) := upd_same
        generalize upd G3 p4 (.tup [.str "con", .str "Int", .ref n3]) = G4 at s4 e4 ⊢
        refine ⟨by show 0 ≤ sizeLine; decide, fun n5 hn5 => ?_⟩
        have s5 := same_new hn5 (.tup [])
        have e5 : upd G4 n5 (.tup []) n5 = some (.tup []) := upd_same
        generalize upd G4 n5 (.tup []) = G5 at s5 e5 ⊢
        refine ⟨by show 3 ≤ sizeLine; decide, fun p6 hp6 => ?_⟩
        have s6 := same_new hp6 (.tup [.str "con", .str "Bool", .ref n5])
        have e6 : upd G5 p6 (.tup [.str "con", .str "Bool", .ref n5]) p6 = some (.tup [.str "con", .str "Bool", .ref n5]) := upd_same
        generalize upd G5 p6 (.tup [.str "con", .str "Bool", .ref n5]) = G6 at s6 e6 ⊢
        refine ⟨by show 4 ≤ sizeLine; decide, fun l hl => ?_⟩
        have s7 := same_new hl (.lst [.ref p1, .ref p2, .ref p4, .ref p6])
        have e7 : upd G6 l (.lst [.ref p1, .ref p2, .ref p4, .ref p6]) l = some (.lst [.ref p1, .ref p2, .ref p4, .ref p6]) := upd_same
        generalize upd G6 l (.lst [.ref p1, .ref p2, .ref p4, .ref p6]) = G7 at s7 e7 ⊢
        have s17 : Same H1 G7 := fun b o e => s7 _ _ (s6 _ _ (s5 _ _ (s4 _ _ (s3 _ _ (s2 _ _ (s1 _ _ e))))))
        refine ⟨_, rfl, p, r, 4, rfl, by decide, d1.same s17, fun m H2 m0 m4 k2 d2 => ?_⟩
        have t2 : TK G7 H2 := tk_keep k2 (d1.same s17).notup
        have nl : l ≠ p := fun e => by
          obtain ⟨_, _, _, z, _⟩ := d1.same s17
          rw [← e, e7] at z
          cases z
        obtain ⟨v, hv, k, hk, gk⟩ := at4 (a := .ref p1) (b := .ref p2) (c := .ref p4) (d := .ref p6) m0 m4 (fun v => ∃ k : Kd, k.At H2 v ∧ Gm mt (d + 1) k)
          ⟨.nm "a", ⟨p1, rfl, t2 _ _ (s7 _ _ (s6 _ _ (s5 _ _ (s4 _ _ (s3 _ _ (s2 _ _ e1))))))⟩, gm_nm ok_a⟩
          ⟨.nm "b", ⟨p2, rfl, t2 _ _ (s7 _ _ (s6 _ _ (s5 _ _ (s4 _ _ (s3 _ _ e2)))))⟩, gm_nm ok_b⟩
          ⟨.cn "Int" [], ⟨p4, n3, [], rfl, t2 _ _ (s7 _ _ (s6 _ _ (s5 _ _ e4))), t2 _ _ (s7 _ _ (s6 _ _ (s5 _ _ (s4 _ _ e3)))), rfl⟩, gm_c0 ok_int⟩
          ⟨.cn "Bool" [], ⟨p6, n5, [], rfl, t2 _ _ (s7 _ _ e6), t2 _ _ (s7 _ _ (s6 _ _ e5)), rfl⟩, gm_c0 ok_bool⟩
        refine ⟨l, _, m, v, rfl, rfl, SqL.of (k2 _ _ nl e7), hv, ?_⟩
        exact q v k H2 (k1.trans ((Keep.same s17).trans k2)) d2 hk gk
    have z : decide (V.int (d : Int) = V.int 0) = false := by
      rw [dec_int, beq_eq_false_iff_ne]
      omega
    show if decide (V.int (d : Int) = V.int 0) = true then _ else _
    rw [z]
    refine iteF ?_
    refine ⟨_, rfl, _, _, rfl, rfl, _, rfl, ?_⟩
    refine ite2 (fun _ => ?_) (fun hp4 => ?_)
    · skip
      refine ⟨_, rfl, _, _, rfl, rfl, (show (0 : Int) < 2 by decide), rfl, _, rfl, ?_⟩
      refine ite2 (fun _ => ?_) (fun _ => ?_)
      · refine ⟨_, rfl, _, _, rfl, rfl, _, rfl, ?_⟩
        by_cases hm4 : mt = 4
        · have z6 : decide ((0 : Int) < mt) = true := by rw [hm4]; decide
          rw [z6]
          refine iteT ?_
          refine ⟨_, rfl, _, rfl, p, r, mt, rfl, by omega, d1, fun m H2 m0 m6 k2 d2 => ?_⟩
          refine ⟨by show 2 ≤ sizeLine; decide, fun t ht => ?_⟩
          exact q _ (.mt m) _ (k1.trans (k2.trans (Keep.same (same_new ht _)))) (d2.same (same_new ht _)) ⟨t, rfl, upd_same⟩ (gm_mt hm4 (six_of m0 (by omega)))
        · have z6 : decide ((0 : Int) < mt) = false := by rw [hmt.resolve_right hm4]; decide
          rw [z6]
          refine iteF ?_
          refine ⟨by show 2 ≤ sizeLine; decide, fun p1 hp1 => ?_⟩
          have s1 := same_new hp1 (.tup [.str "name", .str "a"])
          have e1 : upd H1 p1 (.tup [.str "name", .str "a"]) p1 = some (.tup [.str "name", .str "a"]) := upd_same
          generalize upd H1 p1 (.tup [.str "name", .str "a"]) = G1 at s1 e1 ⊢
          refine ⟨by show 2 ≤ sizeLine; decide, fun p2 hp2 => ?_⟩
          have s2 := same_new hp2 (.tup [.str "name", .str "b"])
          have e2 : upd G1 p2 (.tup [.str "name", .str "b"]) p2 = some (.tup [.str "name", .str "b"]) := upd_same
          generalize upd G1 p2 (.tup [.str "name", .str "b"]) = G2 at s2 e2 ⊢
          refine ⟨by show 0 ≤ sizeLine; decide, fun n3 hn3 => ?_⟩
          have s3 := same_new hn3 (.tup [])
          have e3 : upd G2 n3 (.tup []) n3 = some (.tup []) := upd_same
          generalize upd G2 n3 (.tup []) = G3 at s3 e3 ⊢
          refine ⟨by show 3 ≤ sizeLine; decide, fun p4 hp4 => ?_⟩
          have s4 := same_new hp4 (.tup [.str "con", .str "Int", .ref n3])
          have e4 : upd G3 p4 (.tup [.str "con", .str "Int", .ref n3]) p4 = some (.tup [.str "con", .str "Int", .ref n3]) := upd_same
          generalize upd G3 p4 (.tup [.str "con", .str "Int", .ref n3]) = G4 at s4 e4 ⊢
          refine ⟨by show 0 ≤ sizeLine; decide, fun n5 hn5 => ?_⟩
          have s5 := same_new hn5 (.tup [])
          have e5 : upd G4 n5 (.tup []) n5 = some (.tup []) := upd_same
          generalize upd G4 n5 (.tup []) = G5 at s5 e5 ⊢
          refine ⟨by show 3 ≤ sizeLine; decide, fun p6 hp6 => ?_⟩
          have s6 := same_new hp6 (.tup [.str "con", .str "Bool", .ref n5])
          have e6 : upd G5 p6 (.tup [.str "con", .str "Bool", .ref n5]) p6 = some (.tup [.str "con", .str "Bool", .ref n5]) := upd_same
          generalize upd G5 p6 (.tup [.str "con", .str "Bool", .ref n5]) = G6 at s6 e6 ⊢
          refine ⟨by show 4 ≤ sizeLine; decide, fun l hl => ?_⟩
          have s7 := same_new hl (.lst [.ref p1, .ref p2, .ref p4, .ref p6])
          have e7 : upd G6 l (.lst [.ref p1, .ref p2, .ref p4, .ref p6]) l = some (.lst [.ref p1, .ref p2, .ref p4, .ref p6]) := upd_same
          generalize upd G6 l (.lst [.ref p1, .ref p2, .ref p4, .ref p6]) = G7 at s7 e7 ⊢
          have s17 : Same H1 G7 := fun b o e => s7 _ _ (s6 _ _ (s5 _ _ (s4 _ _ (s3 _ _ (s2 _ _ (s1 _ _ e))))))
          refine ⟨_, rfl, p, r, 4, rfl, by decide, d1.same s17, fun m H2 m0 m4 k2 d2 => ?_⟩
          have t2 : TK G7 H2 := tk_keep k2 (d1.same s17).notup
          have nl : l ≠ p := fun e => by
            obtain ⟨_, _, _, z, _⟩ := d1.same s17
            rw [← e, e7] at z
            cases z
          obtain ⟨v, hv, k, hk, gk⟩ := at4 (a := .ref p1) (b := .ref p2) (c := .ref p4) (d := .ref p6) m0 m4 (fun v => ∃ k : Kd, k.At H2 v ∧ Gm mt (d + 1) k)
            ⟨.nm "a", ⟨p1, rfl, t2 _ _ (s7 _ _ (s6 _ _ (s5 _ _ (s4 _ _ (s3 _ _ (s2 _ _ e1))))))⟩, gm_nm ok_a⟩
            ⟨.nm "b", ⟨p2, rfl, t2 _ _ (s7 _ _ (s6 _ _ (s5 _ _ (s4 _ _ (s3 _ _ e2)))))⟩, gm_nm ok_b⟩
            ⟨.cn "Int" [], ⟨p4, n3, [], rfl, t2 _ _ (s7 _ _ (s6 _ _ (s5 _ _ e4))), t2 _ _ (s7 _ _ (s6 _ _ (s5 _ _ (s4 _ _ e3)))), rfl⟩, gm_c0 ok_int⟩
            ⟨.cn "Bool" [], ⟨p6, n5, [], rfl, t2 _ _ (s7 _ _ e6), t2 _ _ (s7 _ _ (s6 _ _ e5)), rfl⟩, gm_c0 ok_bool⟩
          refine ⟨l, _, m, v, rfl, rfl, SqL.of (k2 _ _ nl e7), hv, ?_⟩
          exact q v k H2 (k1.trans ((Keep.same s17).trans k2)) d2 hk gk
      · refine iteF ?_
        refine ⟨by show 2 ≤ sizeLine; decide, fun p1 hp1 => ?_⟩
        have s1 := same_new hp1 (.tup [.str "name", .str "a"])
        have e1 : upd H1 p1 (.tup [.str "name", .str "a"]) p1 = some (.tup [.str "name", .str "a"]) := upd_same
        generalize upd H1 p1 (.tup [.str "name", .str "a"]) = G1 at s1 e1 ⊢
        refine ⟨by show 2 ≤ sizeLine; decide, fun p2 hp2 => ?_⟩
        have s2 := same_new hp2 (.tup [.str "name", .str "b"])
        have e2 : upd G1 p2 (.tup [.str "name", .str "b"]) p2 = some (.tup [.str "name", .str "b"]) := upd_same
        generalize upd G1 p2 (.tup [.str "name", .str "b"]) = G2 at s2 e2 ⊢
        refine ⟨by show 0 ≤ sizeLine; decide, fun n3 hn3 => ?_⟩
        have s3 := same_new hn3 (.tup [])
        have e3 : upd G2 n3 (.tup []) n3 = some (.tup []) := upd_same
        generalize upd G2 n3 (.tup []) = G3 at s3 e3 ⊢
        refine ⟨by show 3 ≤ sizeLine; decide, fun p4 hp4 => ?_⟩
        have s4 := same_new hp4 (.tup [.str "con", .str "Int", .ref n3])
        have e4 : upd G3 p4 (.tup [.str "con", .str "Int", .ref n3]) p4 = some (.tup [.str "con", .str "Int", .ref n3]) := upd_same
        generalize upd G3 p4 (.tup [.str "con", .str "Int", .ref n3]) = G4 at s4 e4 ⊢
        refine ⟨by show 0 ≤ sizeLine; decide, fun n5 hn5 => ?_⟩
        have s5 := same_new hn5 (.tup [])
        have e5 : upd G4 n5 (.tup []) n5 = some (.tup []) := upd_same
        generalize upd G4 n5 (.tup []) = G5 at s5 e5 ⊢
        refine ⟨by show 3 ≤ sizeLine; decide, fun p6 hp6 => ?_⟩
        have s6 := same_new hp6 (.tup [.str "con", .str "Bool", .ref n5])
        have e6 : upd G5 p6 (.tup [.str "con", .str "Bool", .ref n5]) p6 = some (.tup [.str "con", .str "Bool", .ref n5]) := upd_same
        generalize upd G5 p6 (.tup [.str "con", .str "Bool", .ref n5]) = G6 at s6 e6 ⊢
        refine ⟨by show 4 ≤ sizeLine; decide, fun l hl => ?_⟩
        have s7 := same_new hl (.lst [.ref p1, .ref p2, .ref p4, .ref p6])
        have e7 : upd G6 l (.lst [.ref p1, .ref p2, .ref p4, .ref p6]) l = some (.lst [.ref p1, .ref p2, .ref p4, .ref p6]) := upd_same
        generalize upd G6 l (.lst [.ref p1, .ref p2, .ref p4, .ref p6]) = G7 at s7 e7 ⊢
        have s17 : Same H1 G7 := fun b o e => s7 _ _ (s6 _ _ (s5 _ _ (s4 _ _ (s3 _ _ (s2 _ _ (s1 _ _ e))))))
        refine ⟨_, rfl, p, r, 4, rfl, by decide, d1.same s17, fun m H2 m0 m4 k2 d2 => ?_⟩
        have t2 : TK G7 H2 := tk_keep k2 (d1.same s17).notup
        have nl : l ≠ p := fun e => by
          obtain ⟨_, _, _, z, _⟩ := d1.same s17
          rw [← e, e7] at z
          cases z
        obtain ⟨v, hv, k, hk, gk⟩ := at4 (a := .ref p1) (b := .ref p2) (c := .ref p4) (d := .ref p6) m0 m4 (fun v => ∃ k : Kd, k.At H2 v ∧ Gm mt (d + 1) k)
          ⟨.nm "a", ⟨p1, rfl, t2 _ _ (s7 _ _ (s6 _ _ (s5 _ _ (s4 _ _ (s3 _ _ (s2 _ _ e1))))))⟩, gm_nm ok_a⟩
          ⟨.nm "b", ⟨p2, rfl, t2 _ _ (s7 _ _ (s6 _ _ (s5 _ _ (s4 _ _ (s3 _ _ e2)))))⟩, gm_nm ok_b⟩
          ⟨.cn "Int" [], ⟨p4, n3, [], rfl, t2 _ _ (s7 _ _ (s6 _ _ (s5 _ _ e4))), t2 _ _ (s7 _ _ (s6 _ _ (s5 _ _ (s4 _ _ e3)))), rfl⟩, gm_c0 ok_int⟩
          ⟨.cn "Bool" [], ⟨p6, n5, [], rfl, t2 _ _ (s7 _ _ e6), t2 _ _ (s7 _ _ (s6 _ _ e5)), rfl⟩, gm_c0 ok_bool⟩
        refine ⟨l, _, m, v, rfl, rfl, SqL.of (k2 _ _ nl e7), hv, ?_⟩
        exact q v k H2 (k1.trans ((Keep.same s17).trans k2)) d2 hk gk
    obtain ⟨e, rfl⟩ : ∃ e, d = e + 1 := ⟨d - 1, by omega⟩
    have ed : ∀ x y : V, [x, V.int (((e + 1 : Nat) : Int) - 1), y] = [x, V.int (e : Int), y] := fun x y => by rw [show ((e + 1 : Nat) : Int) - 1 = (e : Int) by omega]
    refine ⟨_, rfl, _, _, rfl, rfl, _, rfl, ?_⟩
    refine ite2 (fun _ => ?_) (fun hp7 => ?_)
    · refine ⟨_, rfl, _, rfl, _, _, rfl, rfl, _, rfl, p, r, e, mt, ed _ _, by omega, hmt, d1, fun v2 a2 H2 k2 d2 at2 g2 => ?_⟩
      refine ⟨_, rfl, _, rfl, _, _, rfl, rfl, _, rfl, p, r, e, mt, ed _ _, by omega, hmt, d2, fun v3 a3 H3 k3 d3 at3 g3 => ?_⟩
      refine ⟨by show 3 ≤ sizeLine; decide, fun t ht => ?_⟩
      have t3 : TK H2 H3 := tk_keep k3 d2.notup
      have t4 : TK H3 (upd H3 t (.tup [.str "fun", v2, v3])) := tk_new ht
      exact q _ (.fn a2 a3) _ (k1.trans (k2.trans (k3.trans (Keep.same (same_new ht _))))) (d3.same (same_new ht _)) ⟨t, v2, v3, rfl, upd_same, at2.keep (t3.trans t4), at3.keep t4⟩ (gm_fn g2 g3)
    refine ⟨_, rfl, rfl, _, rfl, ?_⟩
    refine ite2 (fun _ => ?_) (fun hp8 => ?_)
    · refine ⟨_, rfl, _, rfl, _, _, rfl, rfl, _, rfl, p, r, e, mt, ed _ _, by omega, hmt, d1, fun v2 a2 H2 k2 d2 at2 g2 => ?_⟩
      refine ⟨by show 1 ≤ sizeLine; decide, fun u hu => ?_⟩
      refine ⟨by show 3 ≤ sizeLine; decide, fun t ht => ?_⟩
      have t3 : TK H2 (upd H2 u (.tup [v2])) := tk_new hu
      have t4 : TK (upd H2 u (.tup [v2])) (upd (upd H2 u (.tup [v2])) t (.tup [.str "con", .str "List", .ref u])) := tk_new ht
      exact q _ (.cn "List" [a2]) _ (k1.trans (k2.trans ((Keep.same (same_new hu _)).trans (Keep.same (same_new ht _))))) ((d2.same (same_new hu _)).same (same_new ht _)) ⟨t, u, [v2], rfl, upd_same, t4 _ _ upd_same, v2, [], rfl, at2.keep (t3.trans t4), rfl⟩ (gm_c1 ok_list g2)
    · refine ⟨_, rfl, _, rfl, _, _, rfl, rfl, _, rfl, p, r, e, mt, ed _ _, by omega, hmt, d1, fun v2 a2 H2 k2 d2 at2 g2 => ?_⟩
      refine ⟨_, rfl, _, rfl, _, _, rfl, rfl, _, rfl, p, r, e, mt, ed _ _, by omega, hmt, d2, fun v3 a3 H3 k3 d3 at3 g3 => ?_⟩
      refine ⟨by show 2 ≤ sizeLine; decide, fun u hu => ?_⟩
      refine ⟨by show 3 ≤ sizeLine; decide, fun t ht => ?_⟩
      have t3 : TK H2 H3 := tk_keep k3 d2.notup
      have t4 : TK H3 (upd H3 u (.tup [v2, v3])) := tk_new hu
      have t5 : TK (upd H3 u (.tup [v2, v3])) (upd (upd H3 u (.tup [v2, v3])) t (.tup [.str "con", .str "Pair", .ref u])) := tk_new ht
      exact q _ (.cn "Pair" [a2, a3]) _ (k1.trans (k2.trans (k3.trans ((Keep.same (same_new hu _)).trans (Keep.same (same_new ht _)))))) ((d3.same (same_new hu _)).same (same_new ht _)) ⟨t, u, [v2, v3], rfl, upd_same, t5 _ _ upd_same, v2, [v3], rfl, at2.keep (t3.trans (t4.trans t5)), v3, [], rfl, at3.keep (t4.trans t5), rfl⟩ (gm_c2 ok_pair g2 g3)
end
end Toy

set_option Elab.async false
set_option linter.all false
set_option maxRecDepth 100000
set_option maxHeartbeats 4000000
/-! Part I: the law's putting in. -/
namespace Toy
open PySem L2
open PyProof.Rows (envOfC)
def nkey (s : Str) : List Key := [Sum.inr "name", Sum.inr s]
def mkey (i : Int) : List Key := [Sum.inr "meta", Sum.inl i]
theorem mkey_inj {i j : Int} (e : mkey i = mkey j) : i = j := by
  unfold mkey at e
  exact Sum.inl.inj (List.cons.inj (List.cons.inj e).2).1
theorem mkey_nkey {i : Int} {s : Str} (e : mkey i = nkey s) : False := by
  unfold mkey nkey at e
  have := (List.cons.inj (List.cons.inj e).2).1
  cases this
theorem rd_same {H H' : Hp} {a : Addr} {u : HO} (s : Same H H') (r : Rd H a u) : Rd H' a u := r.imp (s a u) fun ⟨o, h⟩ => ⟨o, s _ _ h⟩
theorem dgetR {H : Hp} {a b : Addr} {kvs : List (List Key × V)} {k : List Key} (e : Rd H a (.dT kvs)) (eb : H b = some (.tup (k.map kV))) : DGet H a (.ref b) (valV kvs k) := .inr ⟨kvs, k, b, e, rfl, eb, rfl⟩
def TabAt (θ : Int → Kd) (H : Hp) (tb : Addr) : Prop := ∃ kvs : List (List Key × V), Rd H tb (.dT kvs) ∧ (∀ m, (valV kvs (mkey m) = none ∧ θ m = .mt m) ∨ ∃ v, valV kvs (mkey m) = some v ∧ (θ m).At H v) ∧ ∀ s, valV kvs (nkey s) = none
theorem TabAt.same {θ : Int → Kd} {H H' : Hp} {tb : Addr} (s : Same H H') : TabAt θ H tb → TabAt θ H' tb := fun ⟨kvs, h1, h2, h3⟩ => ⟨kvs, rd_same s h1, fun m => (h2 m).imp id fun ⟨v, e, h⟩ => ⟨v, e, h.keep (tk_same s)⟩, h3⟩
theorem mss_app (f : Int → Kd) : ∀ a b : List Kd, Kd.mss f (a ++ b) = Kd.mss f a ++ Kd.mss f b
  | [], b => rfl
  | k :: a, b => by rw [List.cons_append, Kd.mss, Kd.mss, mss_app f a b, List.cons_append]
theorem size_mem : ∀ {l : List Kd} {c : Kd}, c ∈ l → c.size ≤ Kd.sizes l
  | k :: l, c, hc => by
    rw [Kd.sizes]
    rcases List.mem_cons.mp hc with e | e
    · rw [e]; omega
    · have := size_mem e
      omega
theorem deps_mem : ∀ {l : List Kd} {c : Kd}, c ∈ l → c.dep ≤ Kd.deps l
  | k :: l, c, hc => by
    rw [Kd.deps]
    rcases List.mem_cons.mp hc with e | e
    · rw [e]; omega
    · have := deps_mem e
      omega
section
variable {P : Program} {w : World} {K : PySem.W.Frag} {mg : Str → Option Value} {base : Heap}
abbrev sPut : Stmt := topS 15
theorem scPut : FnScope ["kind", "table", "part"] ["kind", "table"] (defScope sPut) := ⟨rfl, rfl, rfl, by decide +kernel, rfl, by decide +kernel, by decide +kernel⟩
def spPut (n : Nat) : Sp := fun vs H Q _ => ∃ (v : V) (tb : Addr) (k : Kd) (θ : Int → Kd), vs = [v, .ref tb] ∧ k.At H v ∧ k.dep < n ∧ k.size ≤ 100000 ∧ TabAt θ H tb ∧
  ∀ (u : V) (H' : Hp), Same H H' → (k.ms θ).At H' u → Q u H'
theorem c_put {f : Addr} {fd : FuncData} (T : TxtT mg) (F : Fun K "_law_put" "_law_put" sPut f fd) (b : Binds K fd ["kind", "table"] []) (hm : mg "_law_put" = some (.ref f)) : ∀ n : Nat, C8.Cal P w K mg base (n + 2) "_law_put" (spPut n) []
  | 0 => cal_none F hm b fun vs H Q E ⟨v, tb, k, θ, _, _, h, _⟩ => Nat.not_lt_zero _ h
  | n + 1 => by
    have c_law_put := c_put T F b hm n
    refine cal_of F hm b scPut (fun vs H Q E h => ?_) (fun cdv A outer s H vs Q E hr h => ?_)
    · obtain ⟨v, tb, k, θ, rfl, _⟩ := h
      rfl
    obtain ⟨v, tb, k, θ, rfl, hk, hdn, hsz, hT, q⟩ := h
    have hu := hu_of hr
    refine ⟨_, (pss_cons (ps_if (pt_cmpR op_eq (pe_ix ix_tup (pv 0) pe_int (fun _ _ => rfl)) pe_str (nomark _))
      (pss_one (ps_ret (pe_tup (pa_cons pe_str (pa_cons (pe_ix ix_tup (pv 0) pe_int (fun _ _ => rfl)) (pa_cons (pe_callTy call_tuple_of rfl T.ztuple boot_tuple (pa_cons (pe_lc (own := [("part", 2)]) (g := gName 2) (tt := tYes) rfl scPut.nd (pi_tup (pe_ix ix_tup (pv 0) pe_int (fun _ _ => rfl))) (blkOk_by (own := [("part", 2)]) (N := ["kind", "table", "part"]) (sc := defScope sPut) (by decide +kernel)) (fun _ _ _ _ _ => (pg_name (i := 2) scPut.nd rfl (Or.inl rfl))) (fun _ _ _ _ _ => pts_nil) (fun _ _ _ _ _ => (C8.pe_c c_law_put hr (by omega) rfl (pa_cons (pv 2) (pa_cons (pv 1) pa_nil))))) pa_nil)) pa_nil))))))
      pss_nil)
    (pss_cons (ps_if (pt_cmpR op_eq (pe_ix ix_tup (pv 0) pe_int (fun _ _ => rfl)) pe_str (nomark _))
      (pss_one (ps_ret (pe_tup (pa_cons pe_str (pa_cons (C8.pe_c c_law_put hr (by omega) rfl (pa_cons (pe_ix ix_tup (pv 0) pe_int (fun _ _ => rfl)) (pa_cons (pv 1) pa_nil))) (pa_cons (C8.pe_c c_law_put hr (by omega) rfl (pa_cons (pe_ix ix_tup (pv 0) pe_int (fun _ _ => rfl)) (pa_cons (pv 1) pa_nil))) pa_nil))))))
      pss_nil)
    (pss_one (ps_ret (pe_dget2 hu (pv 1) (pv 0) (pv 0) ⟨rfl, rfl, rfl, rfl⟩))))), ?_⟩
    cases k with
    | mt i =>
      obtain ⟨a, rfl, ha⟩ := hk
      obtain ⟨kvs, htb, hm, hn⟩ := hT
      refine ⟨_, rfl, a, _, 0, .str "meta", rfl, rfl, SqT.of ha, at0 _ _, rfl, _, rfl, ?_⟩
      show if decide (V.str "meta" = V.str "con") = true then _ else _
      rw [wz _ _ sne9]
      refine iteF ?_
      refine ⟨_, rfl, a, _, 0, .str "meta", rfl, rfl, SqT.of ha, at0 _ _, rfl, _, rfl, ?_⟩
      show if decide (V.str "meta" = V.str "fun") = true then _ else _
      rw [wz _ _ sne7]
      refine iteF ?_
      refine ⟨_, rfl, tb, rfl, .inr ⟨_, htb⟩, _, rfl, _, rfl, _, dgetR (k := mkey i) htb ha, ?_⟩
      rcases hm i with ⟨hv, hθ⟩ | ⟨v', hv, hat⟩
      · rw [hv]
        exact q (.ref a) H (fun _ _ e => e) (show (θ i).At H (.ref a) by rw [hθ]; exact ⟨a, rfl, ha⟩)
      · rw [hv]
        exact q v' H (fun _ _ e => e) hat
    | nm s =>
      obtain ⟨a, rfl, ha⟩ := hk
      obtain ⟨kvs, htb, hm, hn⟩ := hT
      refine ⟨_, rfl, a, _, 0, .str "name", rfl, rfl, SqT.of ha, at0 _ _, rfl, _, rfl, ?_⟩
      show if decide (V.str "name" = V.str "con") = true then _ else _
      rw [wz _ _ sne5]
      refine iteF ?_
      refine ⟨_, rfl, a, _, 0, .str "name", rfl, rfl, SqT.of ha, at0 _ _, rfl, _, rfl, ?_⟩
      show if decide (V.str "name" = V.str "fun") = true then _ else _
      rw [wz _ _ sne3]
      refine iteF ?_
      refine ⟨_, rfl, tb, rfl, .inr ⟨_, htb⟩, _, rfl, _, rfl, _, dgetR (k := nkey s) htb ha, ?_⟩
      rw [hn s]
      exact q (.ref a) H (fun _ _ e => e) ⟨a, rfl, ha⟩
    | fn k1 k2 =>
      obtain ⟨a, x, y, rfl, ha, hx, hy⟩ := hk
      have hd1 : k1.dep < n := by
        have : (Kd.fn k1 k2).dep = 1 + max k1.dep k2.dep := rfl
        omega
      have hd2 : k2.dep < n := by
        have : (Kd.fn k1 k2).dep = 1 + max k1.dep k2.dep := rfl
        omega
      have hs1 : k1.size ≤ 100000 := by
        have z : (Kd.fn k1 k2).size = 1 + k1.size + k2.size := rfl
        omega
      have hs2 : k2.size ≤ 100000 := by
        have z : (Kd.fn k1 k2).size = 1 + k1.size + k2.size := rfl
        omega
      refine ⟨_, rfl, a, _, 0, .str "fun", rfl, rfl, SqT.of ha, at0 _ _, rfl, _, rfl, ?_⟩
      show if decide (V.str "fun" = V.str "con") = true then _ else _
      rw [wz _ _ sne11]
      refine iteF ?_
      refine ⟨_, rfl, a, _, 0, .str "fun", rfl, rfl, SqT.of ha, at0 _ _, rfl, _, rfl, ?_⟩
      show if decide (V.str "fun" = V.str "fun") = true then _ else _
      rw [wtt]
      refine iteT ?_
      refine ⟨_, rfl, a, _, 1, x, rfl, rfl, SqT.of ha, at1 _ _ _, _, rfl, x, tb, k1, θ, rfl, hx, hd1, hs1, hT, fun u1 H1 s1 at1' => ?_⟩
      have t1 : TK H H1 := tk_same s1
      refine ⟨_, rfl, a, _, 2, y, rfl, rfl, SqT.of (s1 _ _ ha), at2 _ _ _ _, _, rfl, y, tb, k2, θ, rfl, hy.keep t1, hd2, hs2, hT.same s1, fun u2 H2 s2 at2' => ?_⟩
      have t2 : TK H1 H2 := tk_same s2
      refine ⟨by show 3 ≤ sizeLine; decide, fun t ht => ?_⟩
      have t3 : TK H2 (upd H2 t (.tup [.str "fun", u1, u2])) := tk_new ht
      exact q _ _ (fun b o e => same_new ht _ _ _ (s2 _ _ (s1 _ _ e))) ⟨t, u1, u2, rfl, upd_same, at1'.keep (t2.trans t3), at2'.keep t3⟩
    | cn s l =>
      obtain ⟨a, c, xs, rfl, ha, hc, hats⟩ := hk
      refine ⟨_, rfl, a, _, 0, .str "con", rfl, rfl, SqT.of ha, at0 _ _, rfl, _, rfl, ?_⟩
      show if decide (V.str "con" = V.str "con") = true then _ else _
      rw [wtt]
      refine iteT ?_
      refine ⟨_, rfl, a, _, 1, .str s, rfl, rfl, SqT.of ha, at1 _ _ _, _, rfl, a, _, 2, .ref c, rfl, rfl, SqT.of ha, at2 _ _ _ _, c, rfl, ⟨_, SqT.of hc⟩, fun D hD => ?_⟩
      refine lc_tup (K := K) (a := c) (xs := xs) (fun i H2 => ∃ ys, H2 D = some (.lst ys) ∧ Same H H2 ∧ Kd.Ats H2 (Kd.mss θ (l.take i)) ys ∧ ys.length = i) ⟨[], upd_same, same_new hD _, rfl, rfl⟩ (fun i H2 hi ⟨ys, h1, h2, h3, h4⟩ => SqT.of (h2 _ _ hc)) ?_ ?_
      · rintro i x H2 hx ⟨ys, h1, h2, h3, h4⟩
        obtain ⟨ki, hki, hat⟩ := Kd.Ats.get i hats hx
        have kmem : ki ∈ l := List.mem_of_getElem? hki
        have t2 : TK H H2 := tk_same h2
        refine ⟨rfl, ?_⟩
        refine tYes_if ?_
        refine ⟨_, rfl, _, rfl, x, tb, ki, θ, rfl, hat.keep t2, ?_, ?_, hT.same h2, fun u H3 s3 at3 => ?_⟩
        · have z1 := deps_mem kmem
          have z2 : (Kd.cn s l).dep = 1 + Kd.deps l := rfl
          omega
        · have z1 := size_mem kmem
          have z2 : (Kd.cn s l).size = 1 + Kd.sizes l := rfl
          omega
        · have hl1 := hats.len
          have hil : i < l.length := (List.getElem?_eq_some_iff.mp hki).1
          refine ⟨ys, s3 _ _ h1, ?_, ys ++ [u], upd_same, ?_, ?_, ?_⟩
          · have z1 := Kd.sizes_len l
            have z2 : (Kd.cn s l).size = 1 + Kd.sizes l := rfl
            exact szl (by omega)
          · exact same_upd hD (fun b o e => s3 _ _ (h2 _ _ e)) _
          · have t4 : TK H3 (upd H3 D (.lst (ys ++ [u]))) := tk_list (s3 _ _ h1)
            rw [List.take_add_one, hki, mss_app]
            exact Kd.Ats.app (h3.keep ((tk_same s3).trans t4)) ⟨u, [], rfl, at3.keep t4, rfl⟩
          · rw [List.length_append, h4]
            rfl
      · rintro H2 ⟨ys, h1, h2, h3, h4⟩
        rw [hats.len, List.take_length] at h3
        refine ⟨D, ys, rfl, .inl ⟨SqL.of h1, fun u hu2 => ?_⟩⟩
        refine ⟨by show 3 ≤ sizeLine; decide, fun t ht => ?_⟩
        have t3 : TK H2 (upd H2 u (.tup ys)) := tk_new hu2
        have t4 : TK (upd H2 u (.tup ys)) (upd (upd H2 u (.tup ys)) t (.tup [.str "con", .str s, .ref u])) := tk_new ht
        exact q _ _ (fun b o e => same_new ht _ _ _ (same_new hu2 _ _ _ (h2 _ _ e))) ⟨t, u, ys, rfl, upd_same, t4 _ _ upd_same, h3.keep (t3.trans t4)⟩
end
end Toy

set_option Elab.async false
set_option linter.all false
set_option maxRecDepth 100000
set_option maxHeartbeats 4000000
/-! Part J: the law's matching. -/
namespace Toy
open PySem L2
open PyProof.Rows (envOfC)
theorem valV_end {κ : Type} [DecidableEq κ] {k : κ} {v : V} : ∀ {kvs : List (κ × V)}, valV kvs k = none → valV (kvs ++ [(k, v)]) k = some v
  | [], _ => valV_pos rfl
  | x :: r, h => by
    rw [List.cons_append]
    by_cases e : x.1 = k
    · rw [valV_pos e] at h
      cases h
    · rw [valV_neg e] at h ⊢
      exact valV_end h
theorem valV_more {κ : Type} [DecidableEq κ] {k : κ} {v : V} {q : κ × V} : ∀ {kvs : List (κ × V)}, valV kvs k = some v → valV (kvs ++ [q]) k = some v
  | [], h => by cases h
  | x :: r, h => by
    rw [List.cons_append]
    by_cases e : x.1 = k
    · rw [valV_pos e] at h ⊢
      exact h
    · rw [valV_neg e] at h ⊢
      exact valV_more h
theorem valV_back {κ : Type} [DecidableEq κ] {k : κ} {v : V} {q : κ × V} : ∀ {kvs : List (κ × V)}, valV (kvs ++ [q]) k = some v → valV kvs k = none → q.1 = k
  | [], h, _ => by
    by_cases e : q.1 = k
    · exact e
    · rw [List.nil_append, valV_neg e] at h
      cases h
  | x :: r, h, n => by
    rw [List.cons_append] at h
    by_cases e : x.1 = k
    · rw [valV_pos e] at n
      cases n
    · rw [valV_neg e] at h n
      exact valV_back h n
/-- what a match has found: the four metas' types, some of them -/
def FndAt (θ : Int → Kd) (H : Hp) (fd0 : Addr) : Prop := ∃ (ks : List Int) (kvs : List (List Key × V)), H fd0 = some (.dT kvs) ∧ kvs.length = ks.length ∧ ks.Nodup ∧ (∀ m ∈ ks, m ∈ six) ∧ (∀ m, (m ∉ ks ∧ valV kvs (mkey m) = none) ∨ (m ∈ ks ∧ ∃ v, valV kvs (mkey m) = some v ∧ (θ m).At H v))
theorem FndAt.keep {θ : Int → Kd} {H H' : Hp} {fd0 : Addr} {kvs : List (List Key × V)} (t : TK H H') (e : H fd0 = some (.dT kvs)) (e' : H' fd0 = some (.dT kvs)) : FndAt θ H fd0 → FndAt θ H' fd0 := fun ⟨ks, kvs', h1, h2, h3, h4, h5⟩ => by
  have z : kvs' = kvs := by
    rw [e] at h1
    cases h1
    rfl
  subst z
  exact ⟨ks, kvs', e', h2, h3, h4, fun m => (h5 m).imp id fun ⟨g1, v, g2, g3⟩ => ⟨g1, v, g2, g3.keep t⟩⟩
theorem wtt' (a : Str) : decide (V.str a = V.str a) = true := decide_eq_true rfl
structure TxtR (mg : Str → Option Value) : Prop where
  zlen : mg "len" = none
  zrange : mg "range" = none
mutual
theorem ms_dep (f : Int → Kd) : ∀ p : Kd, p.dep ≤ (p.ms f).dep
  | .nm s => Nat.le_refl _
  | .mt i => Nat.zero_le _
  | .fn a b => by
    have h1 := ms_dep f a
    have h2 := ms_dep f b
    show 1 + max a.dep b.dep ≤ 1 + max (a.ms f).dep (b.ms f).dep
    omega
  | .cn s l => by
    have h1 := mss_dep f l
    show 1 + Kd.deps l ≤ 1 + Kd.deps (Kd.mss f l)
    omega
theorem mss_dep (f : Int → Kd) : ∀ l : List Kd, Kd.deps l ≤ Kd.deps (Kd.mss f l)
  | [] => Nat.le_refl _
  | k :: l => by
    have h1 := ms_dep f k
    have h2 := mss_dep f l
    show max k.dep (Kd.deps l) ≤ max (k.ms f).dep (Kd.deps (Kd.mss f l))
    omega
end
/-- a type whose texts may be compared, not too deep -/
def Gd (k : Kd) : Prop := k.lay = true ∧ k.dep ≤ 30
theorem Gd.shaped {k : Kd} (h : Gd k) : SeqAt.shaped k.D = true := Kd.shaped h.1 h.2
theorem lays_mem : ∀ {l : List Kd} {c : Kd}, Kd.lays l = true → c ∈ l → c.lay = true
  | k :: l, c, h, hc => by
    have h : (k.lay && Kd.lays l) = true := h
    rw [Bool.and_eq_true] at h
    rcases List.mem_cons.mp hc with e | e
    · rw [e]; exact h.1
    · exact lays_mem h.2 e
theorem eqq (k : Kd) : PyData.eqv k.D k.D = true := (Kd.eqv_iff k k).mpr rfl
section
variable {P : Program} {w : World} {K : PySem.W.Frag} {mg : Str → Option Value} {base : Heap}
abbrev sMatch : Stmt := topS 16
theorem scMatch : FnScope ["pattern", "kind", "word", "found", "k"] ["pattern", "kind", "word", "found"] (defScope sMatch) := ⟨rfl, rfl, rfl, by decide +kernel, rfl, by decide +kernel, by decide +kernel⟩
def spMatch (n : Nat) : Sp := fun vs H Q _ => ∃ (vp vk : V) (fd0 : Addr) (p : Kd) (θ : Int → Kd), vs = [vp, vk, .str "meta", .ref fd0] ∧ p.At H vp ∧ (p.ms θ).At H vk ∧ p.dep < n ∧ inS p ∧ Gd (p.ms θ) ∧ p.size ≤ 20000 ∧ FndAt θ H fd0 ∧ ∀ H', Keep fd0 H H' → FndAt θ H' fd0 → Q (.bl true) H'
theorem c_match {f : Addr} {fd : FuncData} (T : TxtR mg) (F : Fun K "_law_match" "_law_match" sMatch f fd) (b : Binds K fd ["pattern", "kind", "word", "found"] []) (hm : mg "_law_match" = some (.ref f)) : ∀ n : Nat, C8.Cal P w K mg base (n + 2) "_law_match" (spMatch n) []
  | 0 => cal_none F hm b fun vs H Q E ⟨vp, vk, fd0, p, θ, _, _, _, h, _⟩ => Nat.not_lt_zero _ h
  | n + 1 => by
    have c_law_match := c_match T F b hm n
    refine cal_of F hm b scMatch (fun vs H Q E h => ?_) (fun cdv A outer s H vs Q E hr h => ?_)
    · obtain ⟨vp, vk, fd0, p, θ, rfl, _⟩ := h
      rfl
    obtain ⟨vp, vk, fd0, p, θ, rfl, hp, hk, hdn, hin, gk, hsz, hF, q⟩ := h
    have hu := hu_of hr
    have hu64 := hr.units
    refine ⟨_, (pss_cons (ps_if (pt_cmpR op_eq (pe_ix ix_tup (pv 0) pe_int (fun _ _ => rfl)) (pv 2) (nomark _))
      (C8.pss_cut (ps_if (pt_cmp (pc_dnotin hu (pv 0) (pv 3)))
      (pss_one (ps_dput hu (pv 3) (pv 0) (pv 1) rfl))
      pss_nil)
    (pss_one (ps_ret (pe_cmpR (op_eqD hu64) (pe_dget hu (pv 3) (pv 0) (fun _ _ => rfl)) (pv 1) (nomark _)))))
      pss_nil)
    (pss_cons (ps_if (pt_cmpR op_ne (pe_ix ix_tup (pv 0) pe_int (fun _ _ => rfl)) (pe_ix ix_tup (pv 1) pe_int (fun _ _ => rfl)) (nomark _))
      (pss_one (ps_ret pe_bl))
      pss_nil)
    (pss_cons (ps_if (pt_cmpR op_eq (pe_ix ix_tup (pv 0) pe_int (fun _ _ => rfl)) pe_str (nomark _))
      (pss_one (ps_ret (pe_and (C8.pe_c c_law_match hr (by omega) rfl (pa_cons (pe_ix ix_tup (pv 0) pe_int (fun _ _ => rfl)) (pa_cons (pe_ix ix_tup (pv 1) pe_int (fun _ _ => rfl)) (pa_cons (pv 2) (pa_cons (pv 3) pa_nil))))) (pe_one (C8.pe_c c_law_match hr (by omega) rfl (pa_cons (pe_ix ix_tup (pv 0) pe_int (fun _ _ => rfl)) (pa_cons (pe_ix ix_tup (pv 1) pe_int (fun _ _ => rfl)) (pa_cons (pv 2) (pa_cons (pv 3) pa_nil)))))))))
      pss_nil)
    (pss_cons (ps_if (pt_cmpR op_ne (pe_ix ix_tup (pv 0) pe_int (fun _ _ => rfl)) pe_str (nomark _))
      (pss_one (ps_ret (pe_cmpR (op_eqD hu64) (pv 0) (pv 1) (nomark _))))
      pss_nil)
    (pss_cons (ps_if (PW.pt (pw_or (pt_cmpR op_ne (pe_ix ix_tup (pv 0) pe_int (fun _ _ => rfl)) (pe_ix ix_tup (pv 1) pe_int (fun _ _ => rfl)) (nomark _)) (pw_or1 (pt_cmpR op_ne (pe_callB call_len_seq rfl T.zlen PySem.boot_len (pa_cons (pe_ix ix_tup (pv 0) pe_int (fun _ _ => rfl)) pa_nil)) (pe_callB call_len_seq rfl T.zlen PySem.boot_len (pa_cons (pe_ix ix_tup (pv 1) pe_int (fun _ _ => rfl)) pa_nil)) (nomark _)))))
      (pss_one (ps_ret pe_bl))
      pss_nil)
    (pss_cons (ps_for PassesOwn.never rfl (pi_range1 rfl T.zrange (pa_cons (pe_callB call_len_seq rfl T.zlen PySem.boot_len (pa_cons (pe_ix ix_tup (pv 0) pe_int (fun _ _ => rfl)) pa_nil)) pa_nil)) (pg_name (i := 4) scMatch.nd rfl (Or.inl rfl))
      (pss_one (ps_if (pt_not (pt_val (C8.pe_c c_law_match hr (by omega) rfl (pa_cons (pe_ix ix_tup (pe_ix ix_tup (pv 0) pe_int (fun _ _ => rfl)) (pv 4) (fun _ _ => rfl)) (pa_cons (pe_ix ix_tup (pe_ix ix_tup (pv 1) pe_int (fun _ _ => rfl)) (pv 4) (fun _ _ => rfl)) (pa_cons (pv 2) (pa_cons (pv 3) pa_nil)))))))
      (pss_one (ps_ret pe_bl))
      pss_nil)))
    (pss_one (ps_ret pe_bl)))))))), ?_⟩
    have hup : ∀ xs, H fd0 ≠ some (.tup xs) := fun xs e => by
      obtain ⟨ks, kvs, h1, _⟩ := hF
      rw [e] at h1
      cases h1
    cases p with
    | mt i =>
      obtain ⟨a, rfl, ha⟩ := hp
      obtain ⟨ks, kvs, h1, h2, h3, h4, h5⟩ := hF
      have hk : (θ i).At H vk := hk
      have gk : Gd (θ i) := gk
      refine ⟨_, rfl, a, _, 0, .str "meta", rfl, rfl, SqT.of ha, at0 _ _, _, rfl, rfl, _, rfl, ?_⟩
      show if decide (V.str "meta" = V.str "meta") = true then _ else _
      rw [wtt]
      refine iteT ?_
      refine ⟨fun σ' H4 => σ' = [some (.ref a), some vk, some (.str "meta"), some (.ref fd0), none] ∧ ∃ kvs' v, Keep fd0 H H4 ∧ H4 fd0 = some (.dT kvs') ∧ FndAt θ H4 fd0 ∧ valV kvs' (mkey i) = some v ∧ (θ i).At H4 v, ?_, ?_⟩
      · refine ⟨_, rfl, _, rfl, fd0, _, rfl, DGet.t (k := mkey i) h1 ha, _, rfl, ?_⟩
        rcases h5 i with ⟨l1, l2⟩ | ⟨l1, v, l2, l3⟩
        · rw [l2]
          refine iteT ?_
          have hkl : ks.length ≤ 4 := nodupI_len (m := six) h3 h4
          refine ⟨_, rfl, _, rfl, _, rfl, fd0, _, rfl, DPut.t (k := mkey i) h1 ha (szl (by omega)), ?_⟩
          rw [putK_new _ l2]
          have t4 : TK H (upd H fd0 (.dT (kvs ++ [(mkey i, vk)]))) := tk_dictT h1
          refine ⟨rfl, kvs ++ [(mkey i, vk)], vk, fun b o n e => by rw [upd_ne n]; exact e, upd_same, ⟨ks ++ [i], kvs ++ [(mkey i, vk)], upd_same, by rw [List.length_append, List.length_append, h2]; rfl, List.nodup_append.mpr ⟨h3, List.pairwise_singleton _ _, fun x hx y hy e => l1 (by rw [← List.mem_singleton.mp hy, ← e]; exact hx)⟩, fun m hm => (List.mem_append.mp hm).elim (h4 m) fun e => by rw [List.mem_singleton.mp e]; exact hin i rfl, fun m => ?_⟩, valV_end l2, hk.keep t4⟩
          by_cases em : m = i
          · rw [em]
            exact .inr ⟨List.mem_append_right _ (List.mem_singleton.mpr rfl), vk, valV_end l2, hk.keep t4⟩
          · rcases h5 m with ⟨g1, g2⟩ | ⟨g1, v, g2, g3⟩
            · refine .inl ⟨fun z => (List.mem_append.mp z).elim g1 fun e => em (List.mem_singleton.mp e), ?_⟩
              cases e : valV (kvs ++ [(mkey i, vk)]) (mkey m) with
              | none => rfl
              | some v =>
                exfalso
                have z := valV_back e g2
                exact em (mkey_inj z).symm
            · exact .inr ⟨List.mem_append_left _ g1, v, valV_more g2, g3.keep t4⟩
        · rw [l2]
          refine iteF ?_
          exact ⟨rfl, kvs, v, fun _ _ _ e => e, h1, ⟨ks, kvs, h1, h2, h3, h4, h5⟩, l2, l3⟩
      · rintro σ' H4 ⟨rfl, kvs', v, k4, e4, hF4, hv, hat⟩
        have t4 : TK H H4 := tk_keep k4 hup
        refine ⟨_, rfl, _, rfl, fd0, v, rfl, hv ▸ DGet.t (k := mkey i) e4 (t4 _ _ ha), _, rfl, _, _, hat.dp, (hk.keep t4).dp, gk.shaped, gk.shaped, ?_⟩
        rw [eqq]
        exact q H4 k4 hF4
    | nm s =>
      obtain ⟨a, rfl, ha⟩ := id hp
      obtain ⟨c, rfl, hc⟩ := id hk
      refine ⟨_, rfl, a, _, 0, .str "name", rfl, rfl, SqT.of ha, at0 _ _, _, rfl, rfl, _, rfl, ?_⟩
      show if decide (V.str "name" = V.str "meta") = true then _ else _
      rw [wz _ _ sne1]
      refine iteF ?_
      refine ⟨_, rfl, a, _, 0, .str "name", rfl, rfl, SqT.of ha, at0 _ _, _, rfl, c, _, 0, .str "name", rfl, rfl, SqT.of hc, at0 _ _, rfl, _, rfl, ?_⟩
      show if (!decide (V.str "name" = V.str "name")) = true then _ else _
      rw [wtt]
      refine iteF ?_
      refine ⟨_, rfl, a, _, 0, .str "name", rfl, rfl, SqT.of ha, at0 _ _, rfl, _, rfl, ?_⟩
      show if decide (V.str "name" = V.str "fun") = true then _ else _
      rw [wz _ _ sne3]
      refine iteF ?_
      refine ⟨_, rfl, a, _, 0, .str "name", rfl, rfl, SqT.of ha, at0 _ _, rfl, _, rfl, ?_⟩
      show if (!decide (V.str "name" = V.str "con")) = true then _ else _
      rw [wz _ _ sne5]
      refine iteT ?_
      have hp2 : (Kd.nm s).At H (.ref a) := ⟨a, rfl, ha⟩
      have hk2 : (Kd.nm s).At H (.ref c) := ⟨c, rfl, hc⟩
      have gk2 : Gd (.nm s) := gk
      refine ⟨_, rfl, _, rfl, _, _, hp2.dp, hk2.dp, gk2.shaped, gk2.shaped, ?_⟩
      rw [eqq]
      exact q H (fun _ _ _ e => e) hF
    | fn p1 p2 =>
      obtain ⟨a, x, y, rfl, ha, hx, hy⟩ := hp
      obtain ⟨c, x2, y2, rfl, hc, hx2, hy2⟩ := hk
      have es : (Kd.fn p1 p2).size = 1 + p1.size + p2.size := rfl
      have ed : (Kd.fn p1 p2).dep = 1 + max p1.dep p2.dep := rfl
      have hn1 : inS p1 := fun m h => hin m (.inl h)
      have hn2 : inS p2 := fun m h => hin m (.inr h)
      have gl : (p1.ms θ).lay = true ∧ (p2.ms θ).lay = true := by
        have z : ((p1.ms θ).lay && (p2.ms θ).lay) = true := gk.1
        rwa [Bool.and_eq_true] at z
      have gd : 1 + max (p1.ms θ).dep (p2.ms θ).dep ≤ 30 := gk.2
      refine ⟨_, rfl, a, _, 0, .str "fun", rfl, rfl, SqT.of ha, at0 _ _, _, rfl, rfl, _, rfl, ?_⟩
      show if decide (V.str "fun" = V.str "meta") = true then _ else _
      rw [wz _ _ sne8]
      refine iteF ?_
      refine ⟨_, rfl, a, _, 0, .str "fun", rfl, rfl, SqT.of ha, at0 _ _, _, rfl, c, _, 0, .str "fun", rfl, rfl, SqT.of hc, at0 _ _, rfl, _, rfl, ?_⟩
      show if (!decide (V.str "fun" = V.str "fun")) = true then _ else _
      rw [wtt]
      refine iteF ?_
      refine ⟨_, rfl, a, _, 0, .str "fun", rfl, rfl, SqT.of ha, at0 _ _, rfl, _, rfl, ?_⟩
      show if decide (V.str "fun" = V.str "fun") = true then _ else _
      rw [wtt]
      refine iteT ?_
      refine ⟨_, rfl, a, _, 1, x, rfl, rfl, SqT.of ha, at1 _ _ _, _, rfl, c, _, 1, x2, rfl, rfl, SqT.of hc, at1 _ _ _, _, rfl, _, rfl, x, x2, fd0, p1, θ, rfl, hx, hx2, by omega, hn1, ⟨gl.1, by omega⟩, by omega, hF, fun H1 kp1 F1 => ⟨true, rfl, ?_⟩⟩
      have t1 : TK H H1 := tk_keep kp1 hup
      refine iteT ?_
      exact ⟨_, rfl, a, _, 2, y, rfl, rfl, SqT.of (t1 _ _ ha), at2 _ _ _ _, _, rfl, c, _, 2, y2, rfl, rfl, SqT.of (t1 _ _ hc), at2 _ _ _ _, _, rfl, _, rfl, y, y2, fd0, p2, θ, rfl, hy.keep t1, hy2.keep t1, by omega, hn2, ⟨gl.2, by omega⟩, by omega, F1, fun H2 kp2 F2 => q H2 (kp1.trans kp2) F2⟩
    | cn s l =>
      obtain ⟨a, a2, xs, rfl, ha, ha2, hats⟩ := hp
      obtain ⟨c, c2, zs, rfl, hc, hc2, hats2⟩ := hk
      have es : (Kd.cn s l).size = 1 + Kd.sizes l := rfl
      have ed : (Kd.cn s l).dep = 1 + Kd.deps l := rfl
      have ll := Kd.sizes_len l
      have l1 := hats.len
      have l2 := hats2.len
      rw [mss_len] at l2
      have gl : PyData.strOk s = true ∧ Kd.lays (Kd.mss θ l) = true := by
        have z : (PyData.strOk s && Kd.lays (Kd.mss θ l)) = true := gk.1
        rwa [Bool.and_eq_true] at z
      have gd : 1 + Kd.deps (Kd.mss θ l) ≤ 30 := gk.2
      refine ⟨_, rfl, a, _, 0, .str "con", rfl, rfl, SqT.of ha, at0 _ _, _, rfl, rfl, _, rfl, ?_⟩
      show if decide (V.str "con" = V.str "meta") = true then _ else _
      rw [wz _ _ sne10]
      refine iteF ?_
      refine ⟨_, rfl, a, _, 0, .str "con", rfl, rfl, SqT.of ha, at0 _ _, _, rfl, c, _, 0, .str "con", rfl, rfl, SqT.of hc, at0 _ _, rfl, _, rfl, ?_⟩
      show if (!decide (V.str "con" = V.str "con")) = true then _ else _
      rw [wtt]
      refine iteF ?_
      refine ⟨_, rfl, a, _, 0, .str "con", rfl, rfl, SqT.of ha, at0 _ _, rfl, _, rfl, ?_⟩
      show if decide (V.str "con" = V.str "fun") = true then _ else _
      rw [wz _ _ sne12]
      refine iteF ?_
      refine ⟨_, rfl, a, _, 0, .str "con", rfl, rfl, SqT.of ha, at0 _ _, rfl, _, rfl, ?_⟩
      show if (!decide (V.str "con" = V.str "con")) = true then _ else _
      rw [wtt]
      refine iteF ?_
      refine ⟨_, rfl, a, _, 1, .str s, rfl, rfl, SqT.of ha, at1 _ _ _, _, rfl, c, _, 1, .str s, rfl, rfl, SqT.of hc, at1 _ _ _, rfl, _, rfl, ?_⟩
      show if (!decide (V.str s = V.str s)) = true then _ else _
      rw [wtt]
      refine iteF ?_
      refine ⟨_, rfl, a, _, 2, .ref a2, rfl, rfl, SqT.of ha, at2 _ _ _ _, a2, xs, rfl, .inr (SqT.of ha2), _, rfl, c, _, 2, .ref c2, rfl, rfl, SqT.of hc, at2 _ _ _ _, c2, zs, rfl, .inr (SqT.of hc2), rfl, _, rfl, ?_⟩
      have z2 : decide (V.int (xs.length : Int) = V.int (zs.length : Int)) = true := decide_eq_true (by rw [l1, l2])
      show if (!decide (V.int (xs.length : Int) = V.int (zs.length : Int))) = true then _ else _
      rw [z2]
      refine iteF ?_
      refine ⟨_, rfl, a, _, 2, .ref a2, rfl, rfl, SqT.of ha, at2 _ _ _ _, a2, xs, rfl, .inr (SqT.of ha2), _, rfl, ?_, ?_, for_range
        (fun (i : Nat) σ' H2 => ∃ (kk : Option V), σ' = [some (.ref a), some (.ref c), some (.str "meta"), some (.ref fd0), kk] ∧ Keep fd0 H H2 ∧ FndAt θ H2 fd0)
        ⟨none, rfl, fun _ _ _ e => e, hF⟩ ?_ ?_⟩
      · omega
      · rw [l1]
        omega
      · rintro i σ' H2 hi ⟨kk, rfl, kp2, F2⟩
        have hix : i < xs.length := by omega
        have hiz : i < zs.length := by omega
        have t2 : TK H H2 := tk_keep kp2 hup
        obtain ⟨ki, hki, hat⟩ := Kd.Ats.get i hats (List.getElem?_eq_getElem hix)
        obtain ⟨mi, hmi, hat2⟩ := Kd.Ats.get i hats2 (List.getElem?_eq_getElem hiz)
        have kmem : ki ∈ l := List.mem_of_getElem? hki
        have emi : mi = ki.ms θ := by
          rw [Kd.mss_map, List.getElem?_map, hki] at hmi
          exact (Option.some.inj hmi).symm
        subst emi
        have mmem : ki.ms θ ∈ Kd.mss θ l := List.mem_of_getElem? hmi
        have szi := size_mem kmem
        have dpi := deps_mem kmem
        have dpm := deps_mem mmem
        have hini : inS ki := inS_part (k := .cn s l) kmem hin
        have at_ok : ∀ {ws : List V} (h : i < ws.length), atI ws (0 + (i : Int)) = some ws[i] := fun {ws} h => by
          rw [show (0 : Int) + (i : Int) = ((i : Nat) : Int) by omega]
          exact atI_nat (List.getElem?_eq_getElem h)
        refine ⟨_, rfl, a, _, 2, .ref a2, rfl, rfl, SqT.of (t2 _ _ ha), at2 _ _ _ _, _, rfl, a2, xs, _, xs[i], rfl, rfl, SqT.of (t2 _ _ ha2), at_ok hix, _, rfl, c, _, 2, .ref c2, rfl, rfl, SqT.of (t2 _ _ hc), at2 _ _ _ _, _, rfl, c2, zs, _, zs[i], rfl, rfl, SqT.of (t2 _ _ hc2), at_ok hiz, _, rfl, _, rfl,
          xs[i], zs[i], fd0, ki, θ, rfl, hat.keep t2, hat2.keep t2, by omega, hini, ⟨lays_mem gl.2 mmem, by omega⟩, by omega, F2, fun H3 kp3 F3 => ⟨true, rfl, ?_⟩⟩
        refine iteF ?_
        exact ⟨_, rfl, kp2.trans kp3, F3⟩
      · rintro σ' H2 ⟨kk, rfl, kp2, F2⟩
        exact q H2 kp2 F2
end
end Toy

set_option Elab.async false
set_option linter.all false
set_option maxRecDepth 100000
set_option maxHeartbeats 4000000
/-! Part P: own rules: a method that lets an error out; an error class of the program called without arguments. -/
namespace Toy
open PySem PySem.Spec PyProof.Rows L2
/-- a method that may let an error out -/
structure MetX (P : Program) (w : World) (K : PySem.W.Frag) (mg : Str → Option Value) (base : Heap) (k : Nat) (C : Addr) (m : Str) (sp : Sp) : Prop where
  ex : ∃ (f : Addr) (fd : FuncData) (ps : List Str), Cls K C ∧ Meth K C m f ∧ FnOk P w K mg base (L2.CX P w) k f fd ps sp ∧ Binds K fd ps []
theorem metX_of {P : Program} {w : World} {K : PySem.W.Frag} {mg : Str → Option Value} {base : Heap} {C : Addr} {m qual : Str} {st : Stmt} {f : Addr} {fd : FuncData} {N ps : List Str} {k : Nat} {sp : Sp} (c : Cls K C) (me : Meth K C m f) (F : Fun K m qual st f fd) (b : Binds K fd ps []) (S : FnScope N ps (defScope st)) (len : ∀ vs H Q E, sp vs H Q E → vs.length = ps.length)
    (hbody : ∀ (cdv : Value) (A : Around) (outer : List Env) (s : Shared) (H : Hp) (vs : List V) (Q : VK) (E : XK), Room k (A.deeper (envOfC qual (defScope st) s.heap.objs.size f cdv)) → sp vs H Q E →
      ∃ t, PSs (cxOf (L2.CX P w) P w K mg base N qual (defScope st) f cdv A outer s H E) (defBody st) t ∧ t { nx := fun _ H' => Q .non H', rt := Q } (start N vs) H) : MetX P w K mg base (k + 1) C m sp :=
  ⟨f, fd, ps, c, me, F.okX S len hbody, b⟩
def tMethX (C : Addr) (m : Str) (sp : Sp) (E : L2.St → XK) (ta : TE) (t : TA) : TE := fun σ H Q => ta σ H fun x H1 => ∃ a dx fs, x = .ref a ∧ H1 a = some (.ins C dx fs) ∧ fs.lookup m = none ∧ t σ H1 fun vs H2 => sp (x :: vs) H2 Q (E σ)
theorem pe_mx {X : Cx} {k j : Nat} {C : Addr} {m : Str} {sp : Sp} {W : WX} {pos apos : Pos} {e o : Expr} {es : List Expr} {ta : TE} {t : TA} {pl : Sem Bool} (c : MetX X.prog X.w X.K X.mg X.base k C m sp) (hr : Room j X.A) (hk : k ≤ j) (tk : Takes X W) (he : PE X o ta) (ha : PA X (e :: es) t)
    (hst : starEach (e :: es) X.env = (false, eval e X.env) :: starEach es X.env := by rfl) (hpl : (backTo pos (starEach es X.env)).any (·.1) = false := by rfl)
    (ht : eval (.Call (.Attribute o m apos) (e :: es) [] pos) X.env = (do
      let ov ← eval o X.env
      standAt apos.atName
      let (f, first) ← holding [ov] (getMethod ov m pl)
      callWith pos f first (backTo pos (starEach (e :: es) X.env)) (backToKw pos (keywordEach [] X.env))) := by rfl) :
    PE X (.Call (.Attribute o m apos) (e :: es) [] pos) (tMethX C m sp (WE W) ta t) := by
  obtain ⟨f, fd, ps, hc, hm, F, b⟩ := c.ex
  refine ⟨fun pins s σ H Q I h => ?_⟩
  refine PySem.W.methodCall_KW (pl := pl) (thn (he.run pins s σ H _ I h) fun u s1 ⟨x, H1, I1, rx, a, dx, fs, ex, ea, l, q⟩ => ?_) ht
  subst ex
  obtain rfl : u = Value.ref a := rx
  refine getmeth_ok I1 ea hc hm l ?_
  refine PySem.W.callWith_K (first := [.ref a]) (h₀ := X.base) I.ok.mod.kin hm.kp (thn (ha.run pos pins s1 σ H1 _ I1 q) fun us s2 ⟨vs, H2, I2, r, q2⟩ => ⟨I2.kIn, ?_⟩) hst hpl
  exact run_fnS (us := .ref a :: us) (vs := .ref a :: vs) F (hr.mono hk) b (passAt tk σ) I2 (.cons rfl r) q2
/-- x(), x an error class of the program that has its base's __init__ -/
theorem pmk_own0 {X : Cx} {C : Addr} {bmB : List Value} {B newId initId : String} {x : Str} {p pos : Pos} (F : ExcBaseFacts B newId initId bmB) (q : PySem.W.excIn X.K C bmB newId = true) (gC : X.mg x = some (.ref C))
    (kC : PySem.W.keepIn X.K (.ref C) = true) (r : Raises X (.ref C)) (hg : Gl X x) (hdb : (x == ("__debug__" : Str)) = false := by decide) :
    PMk X (.Call (.Name x p) [] [] pos) (fun _ H Q => Q (.ref C) none H) := by
  intro pins s σ H Q I h
  refine wpAny_Call_Name_kw (ld_glob I hg gC ?_ hdb)
  refine PySem.W.callWith_K0 (first := []) I.kIn kC ?_
  show wpAny _ _ (call (.ref C) []) _ _ _
  obtain ⟨bm, N, nm, qn, bs, hdct, sn, sub, ab, col, dd, k0, k1, k2, k3, k5, mN, hC, hN, hni, T⟩ := exc_obj I.kIn q
  refine wpAny_call_exc_subT F T hC hN hni (fun h' e hm => ?_) (by rw [sizeLine_eq]; decide)
  exact mk_of I hm r h (I.hok.gone hm.new)
end Toy

set_option Elab.async false
set_option linter.all false
set_option maxRecDepth 100000
set_option maxHeartbeats 4000000
/-! Part Q: what is known of four metas, in plain Lean: its order, its depth and size; what solves it. -/
namespace Toy
open PySem L2
mutual
theorem size_msB {f : Int → Kd} {M : Nat} (hM : 1 ≤ M) : ∀ k : Kd, (∀ x, k.hasM x → (f x).size ≤ M) → (k.ms f).size ≤ k.size * M
  | .nm s, _ => by show 1 ≤ 1 * M; omega
  | .mt i, h => by
    have := h i rfl
    show (f i).size ≤ 1 * M
    omega
  | .fn a b, h => by
    have h1 := size_msB hM a fun x hx => h x (.inl hx)
    have h2 := size_msB hM b fun x hx => h x (.inr hx)
    show 1 + (a.ms f).size + (b.ms f).size ≤ (1 + a.size + b.size) * M
    rw [Nat.add_mul, Nat.add_mul]
    omega
  | .cn s l, h => by
    have h1 := sizes_msB hM l h
    show 1 + Kd.sizes (Kd.mss f l) ≤ (1 + Kd.sizes l) * M
    rw [Nat.add_mul]
    omega
theorem sizes_msB {f : Int → Kd} {M : Nat} (hM : 1 ≤ M) : ∀ l : List Kd, (∀ x, Kd.hasMs x l → (f x).size ≤ M) → Kd.sizes (Kd.mss f l) ≤ Kd.sizes l * M
  | [], _ => Nat.zero_le _
  | k :: l, h => by
    have h1 := size_msB hM k fun x hx => h x (.inl hx)
    have h2 := sizes_msB hM l fun x hx => h x (.inr hx)
    show (k.ms f).size + Kd.sizes (Kd.mss f l) ≤ (k.size + Kd.sizes l) * M
    rw [Nat.add_mul]
    omega
end
mutual
theorem dep_msB {f : Int → Kd} {N : Nat} : ∀ k : Kd, (∀ x, k.hasM x → (f x).dep ≤ N) → (k.ms f).dep ≤ k.dep + N
  | .nm s, _ => Nat.zero_le _
  | .mt i, h => by
    have := h i rfl
    show (f i).dep ≤ 0 + N
    omega
  | .fn a b, h => by
    have h1 := dep_msB a fun x hx => h x (.inl hx)
    have h2 := dep_msB b fun x hx => h x (.inr hx)
    show 1 + max (a.ms f).dep (b.ms f).dep ≤ 1 + max a.dep b.dep + N
    omega
  | .cn s l, h => by
    have h1 := deps_msB l h
    show 1 + Kd.deps (Kd.mss f l) ≤ 1 + Kd.deps l + N
    omega
theorem deps_msB {f : Int → Kd} {N : Nat} : ∀ l : List Kd, (∀ x, Kd.hasMs x l → (f x).dep ≤ N) → Kd.deps (Kd.mss f l) ≤ Kd.deps l + N
  | [], _ => Nat.zero_le _
  | k :: l, h => by
    have h1 := dep_msB k fun x hx => h x (.inl hx)
    have h2 := deps_msB l fun x hx => h x (.inr hx)
    show max (k.ms f).dep (Kd.deps (Kd.mss f l)) ≤ max k.dep (Kd.deps l) + N
    omega
end
mutual
theorem lay_ms {f : Int → Kd} : ∀ k : Kd, k.lay = true → (∀ x, k.hasM x → (f x).lay = true) → (k.ms f).lay = true
  | .nm s, e, _ => e
  | .mt i, _, h => h i rfl
  | .fn a b, e, h => by
    have e : (a.lay && b.lay) = true := e
    rw [Bool.and_eq_true] at e
    show ((a.ms f).lay && (b.ms f).lay) = true
    rw [lay_ms a e.1 fun x hx => h x (.inl hx), lay_ms b e.2 fun x hx => h x (.inr hx)]
    rfl
  | .cn s l, e, h => by
    have e : (PyData.strOk s && Kd.lays l) = true := e
    rw [Bool.and_eq_true] at e
    show (PyData.strOk s && Kd.lays (Kd.mss f l)) = true
    rw [e.1, lays_ms l e.2 h]
    rfl
theorem lays_ms {f : Int → Kd} : ∀ l : List Kd, Kd.lays l = true → (∀ x, Kd.hasMs x l → (f x).lay = true) → Kd.lays (Kd.mss f l) = true
  | [], _, _ => rfl
  | k :: l, e, h => by
    have e : (k.lay && Kd.lays l) = true := e
    rw [Bool.and_eq_true] at e
    show ((k.ms f).lay && Kd.lays (Kd.mss f l)) = true
    rw [lay_ms k e.1 fun x hx => h x (.inl hx), lays_ms l e.2 fun x hx => h x (.inr hx)]
    rfl
end
mutual
theorem bin_ms {f : Int → Kd} : ∀ k : Kd, k.bin → (∀ x, k.hasM x → (f x).bin) → (k.ms f).bin
  | .nm s, _, _ => trivial
  | .mt i, _, h => h i rfl
  | .fn a b, e, h => ⟨bin_ms a e.1 fun x hx => h x (.inl hx), bin_ms b e.2 fun x hx => h x (.inr hx)⟩
  | .cn s l, e, h => ⟨by rw [mss_len]; exact e.1, bins_ms l e.2 h⟩
theorem bins_ms {f : Int → Kd} : ∀ l : List Kd, Kd.bins l → (∀ x, Kd.hasMs x l → (f x).bin) → Kd.bins (Kd.mss f l)
  | [], _, _ => trivial
  | k :: l, e, h => ⟨bin_ms k e.1 fun x hx => h x (.inl hx), bins_ms l e.2 fun x hx => h x (.inr hx)⟩
end
/-- bounds of a type -/
structure Bd (M N : Nat) (k : Kd) : Prop where
  size : k.size ≤ M
  dep : k.dep ≤ N
  lay : k.lay = true
  ins : inS k
  bin : k.bin
theorem Bd.mono {M N M' N' : Nat} {k : Kd} (h : Bd M N k) (hM : M ≤ M') (hN : N ≤ N') : Bd M' N' k := ⟨Nat.le_trans h.size hM, Nat.le_trans h.dep hN, h.lay, h.ins, h.bin⟩
theorem bd_ms {f : Int → Kd} {a b M N : Nat} {k : Kd} (h : Bd a b k) (hM : 1 ≤ M) (hf : ∀ x, k.hasM x → Bd M N (f x)) : Bd (a * M) (b + N) (k.ms f) :=
  ⟨Nat.le_trans (size_msB hM k fun x hx => (hf x hx).size) (Nat.mul_le_mul_right _ h.size), Nat.le_trans (dep_msB k fun x hx => (hf x hx).dep) (Nat.add_le_add_right h.dep _), lay_ms k h.lay fun x hx => (hf x hx).lay,
    fun m hm => by
      obtain ⟨x, h1, h2⟩ := (has_ms k).mp hm
      exact (hf x h1).ins m h2, bin_ms k h.bin fun x hx => (hf x hx).bin⟩
theorem bd_mt {i : Int} (h : i ∈ six) : Bd 1 0 (.mt i) := ⟨Nat.le_refl _, Nat.le_refl _, rfl, fun m e => by
  have e : i = m := e
  rw [← e]; exact h, trivial⟩
/-- each one, the last first, speaks only of those behind it and of others -/
def Okl (A : Int → Prop) : Kn → Prop
  | [] => True
  | q :: l => (∀ x, q.2.hasM x → (∃ p ∈ l, p.1 = x) ∨ A x) ∧ Okl A l
theorem okl_mono {A B : Int → Prop} (h : ∀ x, A x → B x) : ∀ {l : Kn}, Okl A l → Okl B l
  | [], _ => trivial
  | q :: l, ⟨h1, h2⟩ => ⟨fun x hx => (h1 x hx).imp id (h x), okl_mono h h2⟩
theorem okl_app {A : Int → Prop} {m : Kn} (hm : Okl A m) : ∀ {l : Kn}, Okl (fun x => (∃ p ∈ m, p.1 = x) ∨ A x) l → Okl A (l ++ m)
  | [], _ => hm
  | q :: l, ⟨h1, h2⟩ => ⟨fun x hx => by
    rcases h1 x hx with ⟨p, hp, e⟩ | ⟨p, hp, e⟩ | h
    · exact .inl ⟨p, List.mem_append_left _ hp, e⟩
    · exact .inl ⟨p, List.mem_append_right _ hp, e⟩
    · exact .inr h, okl_app hm h2⟩
theorem okl_bd {R : Int → Kd} {A : Int → Prop} (hA : ∀ x, A x → x ∈ six → R x = .mt x) : ∀ {l : Kn}, Okl A l → (∀ q ∈ l, R q.1 = q.2.ms R ∧ Bd 7 3 q.2) → ∀ q ∈ l, Bd (7 ^ l.length) (3 * l.length) (R q.1)
  | [], _, _, q, hq => by cases hq
  | p :: l, ⟨h1, h2⟩, hb, q, hq => by
    have ih := okl_bd hA h2 fun q hq => hb q (List.mem_cons_of_mem _ hq)
    have h7 : 1 ≤ 7 ^ l.length := Nat.one_le_pow _ _ (by decide)
    rcases List.mem_cons.mp hq with e | e
    · subst e
      obtain ⟨b1, b2⟩ := hb q (List.mem_cons_self ..)
      have z := bd_ms (f := R) b2 h7 (N := 3 * l.length) fun x hx => by
        rcases h1 x hx with ⟨p, hp, e⟩ | a
        · rw [← e]; exact ih p hp
        · rw [hA x a (b2.ins x hx)]
          exact (bd_mt (b2.ins x hx)).mono h7 (Nat.zero_le _)
      rw [b1]
      refine z.mono ?_ ?_
      · rw [List.length_cons, Nat.pow_succ]; omega
      · rw [List.length_cons]; omega
    · refine (ih q e).mono ?_ ?_
      · rw [List.length_cons, Nat.pow_succ]; omega
      · rw [List.length_cons]; omega
/-- what is known, with what each meta comes down to for all that solves it -/
structure Unj (R : Int → Kd) (u : Int → Nat) (κ : Kn) : Prop where
  solves : Solves' R κ
  opn : ∀ m, (∀ q ∈ κ, q.1 ≠ m) → R m = .mt m
  all : ∀ S, Solves' S κ → ∀ m, S m = (R m).ms S
  idem : ∀ m, (R m).ms R = R m
  cost : ∀ q ∈ κ, 1 + q.2.cost u ≤ u q.1
  nodup : (κ.map (·.1)).Nodup
  dom : ∀ q ∈ κ, q.1 ∈ six
  bd : ∀ q ∈ κ, Bd 7 3 q.2
  ord : ∃ π : Kn, (∀ q, q ∈ π ↔ q ∈ κ) ∧ π.length = κ.length ∧ Okl (fun x => ∀ q ∈ κ, q.1 ≠ x) π
theorem Unj.uni {R : Int → Kd} {u : Int → Nat} {κ : Kn} (h : Unj R u κ) : Uni R R u κ := ⟨h.solves, h.opn, fun m => (h.idem m).symm, h.idem, h.cost, h.nodup⟩
theorem Unj.len {R : Int → Kd} {u : Int → Nat} {κ : Kn} (h : Unj R u κ) : κ.length ≤ 4 := by
  have z := nodupI_len (m := six) h.nodup fun s hs => by
    obtain ⟨q, hq, e⟩ := List.mem_map.mp hs
    rw [← e]; exact h.dom q hq
  rw [List.length_map] at z
  exact z
theorem Unj.back {R : Int → Kd} {u : Int → Nat} {κ : Kn} (h : Unj R u κ) {S : Int → Kd} (hS : Solves' S κ) (k : Kd) : (k.ms R).ms S = k.ms S := by
  rw [ms_ms]
  exact ms_congr k fun m _ => (h.all S hS m).symm
theorem Unj.reidem {R : Int → Kd} {u : Int → Nat} {κ : Kn} (h : Unj R u κ) (k : Kd) : (k.ms R).ms R = k.ms R := by
  rw [ms_ms]
  exact ms_congr k fun m _ => h.idem m
theorem Unj.start : Unj Kd.mt (fun _ => 0) [] := ⟨fun q h => (by cases h), fun m _ => rfl, fun S _ m => rfl, fun m => rfl, fun q h => (by cases h), List.nodup_nil, fun q h => (by cases h), fun q h => (by cases h), [], fun q => Iff.rfl, rfl, trivial⟩
/-- the bounds of what a meta comes down to -/
theorem Unj.bdR {R : Int → Kd} {u : Int → Nat} {κ : Kn} (h : Unj R u κ) {m : Int} (hm : m ∈ six) : Bd 2401 12 (R m) := by
  obtain ⟨π, h1, h2, h3⟩ := h.ord
  by_cases op : ∀ q ∈ κ, q.1 ≠ m
  · rw [h.opn m op]
    exact (bd_mt hm).mono (by decide) (by decide)
  · have : ∃ q ∈ κ, q.1 = m := Classical.byContradiction fun z => op fun q hq e => z ⟨q, hq, e⟩
    obtain ⟨q, hq, rfl⟩ := this
    have l4 := h.len
    refine (okl_bd (R := R) (fun x a _ => h.opn x a) h3 (fun q hq => ⟨h.solves q ((h1 q).mp hq), h.bd q ((h1 q).mp hq)⟩) q ((h1 q).mpr hq)).mono ?_ ?_
    · rw [h2]
      exact Nat.le_trans (Nat.pow_le_pow_right (by decide) l4) (by decide)
    · rw [h2]; omega
theorem Unj.bdK {R : Int → Kd} {u : Int → Nat} {κ : Kn} (h : Unj R u κ) {k : Kd} (hk : Bd 7 3 k) : Bd 16807 15 (k.ms R) := bd_ms hk (by decide) fun x hx => h.bdR (hk.ins x hx)
theorem Unj.add {R : Int → Kd} {u : Int → Nat} {κ : Kn} {m : Int} {t : Kd} (h : Unj R u κ) (op : ∀ q ∈ κ, q.1 ≠ m) (hm : m ∈ six) (ht : Bd 7 3 t) (out : ¬ (t.ms R).hasM m) :
    ∃ u', Unj (fun x => (R x).ms fun x => if x = m then t.ms R else .mt x) u' (κ ++ [(m, t)]) := by
  let δ : Int → Kd := fun x => if x = m then t.ms R else .mt x
  have δm : δ m = t.ms R := if_pos rfl
  have δn : ∀ x, x ≠ m → δ x = .mt x := fun x hx => if_neg hx
  have tδ : (t.ms R).ms δ = t.ms R := by
    have z : (t.ms R).ms δ = (t.ms R).ms Kd.mt := ms_congr _ fun x hx => δn x fun q => out (q ▸ hx)
    rw [z, ms_id]
  have Rm : R m = .mt m := h.opn m op
  have key : ∀ k : Kd, (k.ms fun x => (R x).ms δ) = (k.ms R).ms δ := fun k => (ms_ms R δ k).symm
  have rm : (R m).ms δ = t.ms R := by
    rw [Rm]
    exact δm
  have dom' : ∀ x, (∀ q ∈ κ ++ [(m, t)], q.1 ≠ x) ↔ (∀ q ∈ κ, q.1 ≠ x) ∧ x ≠ m := fun x =>
    ⟨fun z => ⟨fun q hq => z q (List.mem_append_left _ hq), fun e => z (m, t) (List.mem_append_right _ (List.mem_singleton.mpr rfl)) e.symm⟩,
     fun ⟨z1, z2⟩ q hq => (List.mem_append.mp hq).elim (z1 q) fun e => by rw [List.mem_singleton.mp e]; exact fun e => z2 e.symm⟩
  refine ⟨fun x => u x + (1 + t.cost u) * (R x).cnt m, ⟨fun q hq => ?_, fun x hx => ?_, fun S hS x => ?_, fun x => ?_, fun q hq => ?_, ?_, fun q hq => ?_, fun q hq => ?_, ?_⟩⟩
  · rcases List.mem_append.mp hq with hq | hq
    · show (R q.1).ms δ = q.2.ms fun x => (R x).ms δ
      rw [h.solves q hq, key]
    · rw [List.mem_singleton.mp hq]
      show (R m).ms δ = t.ms fun x => (R x).ms δ
      rw [rm, key, tδ]
  · obtain ⟨h1, h2⟩ := (dom' x).mp hx
    show (R x).ms δ = .mt x
    rw [h.opn x h1]
    exact δn x h2
  · have hS1 : Solves' S κ := fun q hq => hS q (List.mem_append_left _ hq)
    have e : S m = t.ms S := hS (m, t) (List.mem_append_right _ (List.mem_singleton.mpr rfl))
    show S x = ((R x).ms δ).ms S
    rw [ms_ms]
    have z : ((R x).ms fun y => (δ y).ms S) = (R x).ms S := ms_congr _ fun y _ => by
      by_cases hy : y = m
      · rw [hy, δm, h.back hS1 t, e]
      · rw [δn y hy]
        rfl
    rw [z]
    exact h.all S hS1 x
  · show ((R x).ms δ).ms (fun y => (R y).ms δ) = (R x).ms δ
    rw [key, ms_ms, ms_ms]
    refine ms_congr _ fun y hy => ?_
    by_cases hym : y = m
    · rw [hym, δm, key, h.reidem t, tδ]
    · rw [δn y hym]
      show (R y).ms δ = .mt y
      rw [ms_fix (R x) (h.idem x) y hy]
      exact δn y hym
  · rcases List.mem_append.mp hq with hq | hq
    · rw [cost_add]
      have z := h.cost q hq
      have z2 := h.solves q hq
      show 1 + (q.2.cost u + (1 + t.cost u) * (q.2.ms R).cnt m) ≤ u q.1 + (1 + t.cost u) * (R q.1).cnt m
      rw [z2]
      omega
    · rw [List.mem_singleton.mp hq]
      show 1 + t.cost _ ≤ u m + (1 + t.cost u) * (R m).cnt m
      rw [cost_add, cnt_zero _ out, Rm]
      have z : (Kd.mt m).cnt m = 1 := if_pos rfl
      rw [z]
      omega
  · rw [List.map_append]
    exact List.nodup_append.mpr ⟨h.nodup, List.pairwise_singleton _ _, fun a ha b hb z => by
      obtain ⟨q, hq, e2⟩ := List.mem_map.mp ha
      rw [List.mem_singleton.mp hb] at z
      exact op q hq (e2.trans z)⟩
  · rcases List.mem_append.mp hq with hq | hq
    · exact h.dom q hq
    · rw [List.mem_singleton.mp hq]; exact hm
  · rcases List.mem_append.mp hq with hq | hq
    · exact h.bd q hq
    · rw [List.mem_singleton.mp hq]; exact ht
  · obtain ⟨π, h1, h2, h3⟩ := h.ord
    have dec : ∀ q : Int × Kd, Decidable ((q.2.ms R).hasM m) := fun q => Classical.propDecidable _
    let far : Int × Kd → Bool := fun q => @decide _ (dec q)
    have farT : ∀ q, far q = true ↔ (q.2.ms R).hasM m := fun q => @decide_eq_true_iff _ (dec q)
    let lo := π.filter fun q => !far q
    let hi := π.filter fun q => far q
    have memlo : ∀ q, q ∈ lo ↔ q ∈ π ∧ ¬ (q.2.ms R).hasM m := fun q => by
      show q ∈ π.filter (fun q => !far q) ↔ _
      rw [List.mem_filter, Bool.not_eq_true', ← Bool.not_eq_true, farT]
    have memhi : ∀ q, q ∈ hi ↔ q ∈ π ∧ (q.2.ms R).hasM m := fun q => by
      show q ∈ π.filter (fun q => far q) ↔ _
      rw [List.mem_filter, farT]
    -- a part of what does not reach m does not reach m
    have part : ∀ (k : Kd) (x : Int), k.hasM x → ¬ (k.ms R).hasM m → ¬ (R x).hasM m := fun k x hx no z => no ((has_ms k).mpr ⟨x, hx, z⟩)
    have nom : ∀ (k : Kd) (x : Int), k.hasM x → ¬ (k.ms R).hasM m → (∀ q ∈ κ, q.1 ≠ x) → x ≠ m := fun k x hx no hop e => part k x hx no (by rw [h.opn x hop, e]; exact rfl)
    have oklo : Okl (fun x => ∀ q ∈ κ ++ [(m, t)], q.1 ≠ x) lo := by
      have go : ∀ l : Kn, (∀ q ∈ l, q ∈ π) → Okl (fun x => ∀ q ∈ κ, q.1 ≠ x) l → Okl (fun x => ∀ q ∈ κ ++ [(m, t)], q.1 ≠ x) (l.filter fun q => !far q) := by
        intro l
        induction l with
        | nil => intro _ _; exact trivial
        | cons p l ih =>
          intro hl ⟨g1, g2⟩
          have ih := ih (fun q hq => hl q (List.mem_cons_of_mem _ hq)) g2
          by_cases c : far p = true
          · rw [List.filter_cons_of_neg (by rw [c]; decide)]
            exact ih
          · have cn : ¬ (p.2.ms R).hasM m := fun z => c ((farT p).mpr z)
            rw [List.filter_cons_of_pos (by rw [Bool.not_eq_true'] ; exact Bool.not_eq_true _ ▸ c)]
            refine ⟨fun x hx => ?_, ih⟩
            rcases g1 x hx with ⟨q, hq, e⟩ | a
            · refine .inl ⟨q, List.mem_filter.mpr ⟨hq, ?_⟩, e⟩
              have z : ¬ (q.2.ms R).hasM m := by
                rw [← h.solves q ((h1 q).mp (hl q (List.mem_cons_of_mem _ hq))), e]
                exact part _ x hx cn
              rw [Bool.not_eq_true', ← Bool.not_eq_true, farT]
              exact z
            · exact .inr ((dom' x).mpr ⟨a, nom _ x hx cn a⟩)
      exact go π (fun _ h => h) h3
    have okhi : Okl (fun x => (∃ p ∈ (m, t) :: lo, p.1 = x) ∨ ∀ q ∈ κ ++ [(m, t)], q.1 ≠ x) hi := by
      have go : ∀ l : Kn, (∀ q ∈ l, q ∈ π) → Okl (fun x => ∀ q ∈ κ, q.1 ≠ x) l → Okl (fun x => (∃ p ∈ (m, t) :: lo, p.1 = x) ∨ ∀ q ∈ κ ++ [(m, t)], q.1 ≠ x) (l.filter fun q => far q) := by
        intro l
        induction l with
        | nil => intro _ _; exact trivial
        | cons p l ih =>
          intro hl ⟨g1, g2⟩
          have ih := ih (fun q hq => hl q (List.mem_cons_of_mem _ hq)) g2
          by_cases c : far p = true
          · rw [List.filter_cons_of_pos c]
            refine ⟨fun x hx => ?_, ih⟩
            rcases g1 x hx with ⟨q, hq, e⟩ | a
            · by_cases c2 : far q = true
              · exact .inl ⟨q, List.mem_filter.mpr ⟨hq, c2⟩, e⟩
              · exact .inr (.inl ⟨q, List.mem_cons_of_mem _ ((memlo q).mpr ⟨hl q (List.mem_cons_of_mem _ hq), fun z => c2 ((farT q).mpr z)⟩), e⟩)
            · by_cases ex : x = m
              · exact .inr (.inl ⟨(m, t), List.mem_cons_self .., ex.symm⟩)
              · exact .inr (.inr ((dom' x).mpr ⟨a, ex⟩))
          · rw [List.filter_cons_of_neg c]
            exact ih
      exact go π (fun _ h => h) h3
    refine ⟨hi ++ (m, t) :: lo, fun q => ?_, ?_, okl_app (show Okl (fun x => ∀ q ∈ κ ++ [(m, t)], q.1 ≠ x) ((m, t) :: lo) from ⟨fun x hx => ?_, oklo⟩) okhi⟩
    · rw [List.mem_append, List.mem_cons, memhi, memlo, List.mem_append, List.mem_singleton, ← h1]
      by_cases c : (q.2.ms R).hasM m
      · constructor
        · rintro (⟨z, _⟩ | z | ⟨z, _⟩)
          · exact .inl z
          · exact .inr z
          · exact .inl z
        · rintro (z | z)
          · exact .inl ⟨z, c⟩
          · exact .inr (.inl z)
      · constructor
        · rintro (⟨z, _⟩ | z | ⟨z, _⟩)
          · exact .inl z
          · exact .inr z
          · exact .inl z
        · rintro (z | z)
          · exact .inr (.inr ⟨z, c⟩)
          · exact .inr (.inl z)
    · have z : hi.length + lo.length = π.length := by
        show (π.filter fun q => far q).length + (π.filter fun q => !far q).length = π.length
        rw [← List.countP_eq_length_filter, ← List.countP_eq_length_filter, List.length_eq_countP_add_countP far (l := π)]
        congr 1
        refine List.countP_congr fun q _ => ?_
        cases far q <;> simp
      rw [List.length_append, List.length_cons, List.length_append, ← h2, ← z]
      show hi.length + (lo.length + 1) = hi.length + lo.length + 1
      omega
    · by_cases a : ∀ q ∈ κ, q.1 ≠ x
      · exact .inr ((dom' x).mpr ⟨a, nom t x hx out a⟩)
      · have : ∃ q ∈ κ, q.1 = x := Classical.byContradiction fun z => a fun q hq e => z ⟨q, hq, e⟩
        obtain ⟨q, hq, e⟩ := this
        refine .inl ⟨q, (memlo q).mpr ⟨(h1 q).mpr hq, ?_⟩, e⟩
        rw [← h.solves q hq, e]
        exact part t x hx out
/-- no types make a meta equal to a type that holds it -/
theorem occurs_no {S : Int → Kd} {m : Int} {k : Kd} (e : S m = k.ms S) (n : ∀ i, k ≠ .mt i) (h : k.hasM m) : False := by
  have := has_less (f := S) k n h
  rw [e] at this
  omega
theorem Unj.occurs {R : Int → Kd} {u : Int → Nat} {κ : Kn} {m : Int} {t : Kd} (h : Unj R u κ) (op : ∀ q ∈ κ, q.1 ≠ m) (n : ∀ i, t = .mt i → i ≠ m ∧ ∀ q ∈ κ, q.1 ≠ i) (hh : (t.ms R).hasM m) (S : Int → Kd) (hS : Solves' S κ) (e : S m = t.ms S) : False := by
  by_cases hm : ∃ i, t = .mt i
  · obtain ⟨i, rfl⟩ := hm
    obtain ⟨n1, n2⟩ := n i rfl
    have z : (R i).hasM m := hh
    rw [h.opn i n2] at z
    exact n1 z
  · have nm : ∀ i, t.ms R ≠ .mt i := fun i e2 => by
      cases t with
      | mt j => exact hm ⟨j, rfl⟩
      | nm s => cases e2
      | fn a b => cases e2
      | cn s l => cases e2
    exact occurs_no (S := S) (k := t.ms R) (by rw [h.back hS t]; exact e) nm hh
end Toy

set_option Elab.async false
set_option linter.all false
set_option maxRecDepth 100000
set_option maxHeartbeats 4000000
/-! Part R: is a meta outside of a type; the error if it is not. -/
namespace Toy
open PySem L2
open PyProof.Rows (envOfC)
theorem hass_in : ∀ {l : List Kd} {m : Int} {f : Int → Kd}, Kd.hasMs m (Kd.mss f l) → ∃ c ∈ l, (c.ms f).hasM m
  | [], _, _, h => (show False from h).elim
  | k :: l, m, f, h => by
    rcases (show (k.ms f).hasM m ∨ Kd.hasMs m (Kd.mss f l) from h) with z | z
    · exact ⟨k, List.mem_cons_self .., z⟩
    · obtain ⟨c, hc, h2⟩ := hass_in z
      exact ⟨c, List.mem_cons_of_mem _ hc, h2⟩
theorem has_part {m : Int} {f : Int → Kd} : ∀ {t : Kd}, t.isM = false → (t.ms f).hasM m → ∃ c ∈ t.parts, (c.ms f).hasM m
  | .nm s, _, h => (show False from h).elim
  | .mt i, e, _ => by cases e
  | .fn a b, _, h => by
    rcases (show (a.ms f).hasM m ∨ (b.ms f).hasM m from h) with z | z
    · exact ⟨a, List.mem_cons_self .., z⟩
    · exact ⟨b, List.mem_cons_of_mem _ (List.mem_cons_self ..), z⟩
  | .cn s l, _, h => hass_in h
theorem wsum_mem {w : Kd → Nat} : ∀ {l : List Kd} {c : Kd}, c ∈ l → w c ≤ wsum w l
  | k :: l, c, hc => by
    rw [wsum]
    rcases List.mem_cons.mp hc with e | e
    · rw [e]; omega
    · have := wsum_mem (w := w) e
      omega
theorem part_cost {u : Int → Nat} {t c : Kd} (h : c ∈ t.parts) : c.cost u < t.cost u := by
  have ne : t.parts ≠ [] := fun e => by rw [e] at h; cases h
  rw [cost_parts u t ne]
  have := wsum_mem (w := Kd.cost u) h
  omega
/-- what is still to be looked at, those seen: m is within k just when it is within one of them -/
def Out (R : Int → Kd) (uu : Int → Nat) (m : Int) (k : Kd) (sn : List Int) (kl : List Kd) : Prop :=
  (∀ t ∈ kl, (t.ms R).hasM m → (k.ms R).hasM m) ∧ ((k.ms R).hasM m → ∃ t ∈ kl, (t.ms R).hasM m) ∧ ∀ i ∈ sn, (R i).hasM m → ∃ t ∈ kl, (t.ms R).hasM m ∧ t.cost uu < uu i
section
variable {R : Int → Kd} {uu : Int → Nat} {m : Int} {k : Kd} {sn : List Int} {kl : List Kd}
theorem out_start : Out R uu m k [] [k] := ⟨fun t ht => by rw [List.mem_singleton.mp ht]; exact id, fun h => ⟨k, List.mem_singleton.mpr rfl, h⟩, fun i hi => by cases hi⟩
theorem Out.none (h : Out R uu m k sn kl) (e : ([] : List V).length = kl.length) : ¬ (k.ms R).hasM m := fun z => by
  obtain ⟨t, ht, _⟩ := h.2.1 z
  have : kl = [] := List.length_eq_zero_iff.mp e.symm
  rw [this] at ht
  cases ht
/-- the last one gives way to others: those hold m if it does, and cost less -/
theorem Out.step {t : Kd} {ls : List Kd} (h : Out R uu m k sn (kl ++ [t])) (h1 : ∀ c ∈ ls, (c.ms R).hasM m → (t.ms R).hasM m) (h2 : (t.ms R).hasM m → ∃ c ∈ kl ++ ls, (c.ms R).hasM m ∧ c.cost uu < t.cost uu) : Out R uu m k sn (kl ++ ls) := by
  have ht : t ∈ kl ++ [t] := List.mem_append_right _ (List.mem_singleton.mpr rfl)
  refine ⟨fun c hc hh => ?_, fun hk => ?_, fun i hi hR => ?_⟩
  · rcases List.mem_append.mp hc with z | z
    · exact h.1 c (List.mem_append_left _ z) hh
    · exact h.1 t ht (h1 c z hh)
  · obtain ⟨c, hc, hh⟩ := h.2.1 hk
    rcases List.mem_append.mp hc with z | z
    · exact ⟨c, List.mem_append_left _ z, hh⟩
    · rw [List.mem_singleton.mp z] at hh
      obtain ⟨c2, g1, g2, _⟩ := h2 hh
      exact ⟨c2, g1, g2⟩
  · obtain ⟨c, hc, hh, lt⟩ := h.2.2 i hi hR
    rcases List.mem_append.mp hc with z | z
    · exact ⟨c, List.mem_append_left _ z, hh, lt⟩
    · rw [List.mem_singleton.mp z] at hh lt
      obtain ⟨c2, g1, g2, g3⟩ := h2 hh
      exact ⟨c2, g1, g2, Nat.lt_trans g3 lt⟩
theorem Out.parts {t : Kd} (h : Out R uu m k sn (kl ++ [t])) (e : t.isM = false) : Out R uu m k sn (kl ++ t.parts) := h.step (fun c hc => part_has hc) fun hh => by
  obtain ⟨c, hc, h2⟩ := has_part e hh
  exact ⟨c, List.mem_append_right _ hc, h2, part_cost hc⟩
theorem Out.opn {i : Int} (h : Out R uu m k sn (kl ++ [.mt i])) (n : ¬ i = m) (e : R i = .mt i) : Out R uu m k sn kl := by
  have z := h.step (ls := []) (fun c hc => by cases hc) fun hh => by
    have hh : (R i).hasM m := hh
    rw [e] at hh
    exact (n hh).elim
  rwa [List.append_nil] at z
theorem Out.seen {i : Int} (h : Out R uu m k sn (kl ++ [.mt i])) (hi : i ∈ sn) : Out R uu m k sn kl := by
  have z := h.step (ls := []) (fun c hc => by cases hc) fun hh => by
    obtain ⟨c, hc, h2, lt⟩ := h.2.2 i hi hh
    rcases List.mem_append.mp hc with z | z
    · exact ⟨c, List.mem_append_left _ z, h2, by show _ < 2 + uu i; omega⟩
    · rw [List.mem_singleton.mp z] at lt
      have lt : 2 + uu i < uu i := lt
      omega
  rwa [List.append_nil] at z
theorem Out.new {i : Int} {t : Kd} (h : Out R uu m k sn (kl ++ [.mt i])) (e : R i = t.ms R) (c : 1 + t.cost uu ≤ uu i) : Out R uu m k (sn ++ [i]) (kl ++ [t]) := by
  have hm : t ∈ kl ++ [t] := List.mem_append_right _ (List.mem_singleton.mpr rfl)
  have z := h.step (ls := [t]) (fun c hc hh => by rw [List.mem_singleton.mp hc, ← e] at hh; exact hh) fun hh => ⟨t, hm, by rw [← e]; exact hh, by show _ < 2 + uu i; omega⟩
  refine ⟨z.1, z.2.1, fun j hj hR => ?_⟩
  rcases List.mem_append.mp hj with q | q
  · exact z.2.2 j q hR
  · rw [List.mem_singleton.mp q] at hR ⊢
    exact ⟨t, hm, by rw [← e]; exact hR, by omega⟩
end
/-- the error -/
structure ErrU (K : PySem.W.Frag) (mg : Str → Option Value) (CE : Addr) : Prop where
  g : mg "CannotUnify" = some (.ref CE)
  q : PySem.W.excIn K CE [.type "ValueError", .type "Exception", .type "BaseException", .type "object"] "ValueError.__new__" = true
  k : PySem.W.keepIn K (.ref CE) = true
  s : PySem.W.subIn K (.ref CE) (.type "BaseException") = some true
  t : PySem.W.typeIn K (.ref CE) = some (.type "type")
section
variable {P : Program} {w : World} {K : PySem.W.Frag} {mg : Str → Option Value} {base : Heap} {C : Addr}
abbrev sOutside : Stmt := inClass (topS 9) 6
theorem scOutside : FnScope ["self", "number", "kind", "seen", "todo", "part"] ["self", "number", "kind"] (defScope sOutside) := ⟨rfl, rfl, rfl, by decide +kernel, rfl, by decide +kernel, by decide +kernel⟩
def spOutside (C CE : Addr) : Sp := fun vs H Q E => ∃ (o d : Addr) (n m : Int) (κ : Kn) (v : V) (k : Kd) (R : Int → Kd) (uu : Int → Nat), vs = [.ref o, .int m, v] ∧ Un C H o d n κ ∧ Unj R uu κ ∧ k.At H v ∧ (∀ q ∈ κ, q.1 ≠ m) ∧ k.size ≤ 7 ∧ (¬ (k.ms R).hasM m → ∀ H', Same H H' → Q .non H') ∧ ((k.ms R).hasM m → ∀ H', Same H H' → E (.ref CE) none H')
theorem c_outside {f CE : Addr} {fd : FuncData} (T : TxtU K mg C) (R : ErrU K mg CE) (ckind_parts : C8.Cal P w K mg base 1 "kind_parts" (spParts K) []) (me : Meth K C "check_outside" f) (F : Fun K "check_outside" "Unifier.check_outside" sOutside f fd) (b : Binds K fd ["self", "number", "kind"] []) : MetX P w K mg base 2 C "check_outside" (spOutside C CE) := by
  refine metX_of T.cl me F b scOutside (fun vs H Q E h => ?_) (fun cdv A outer s H vs Q E hr h => ?_)
  · obtain ⟨o, d, n, m, κ, v, k, R, uu, rfl, _⟩ := h
    rfl
  have RE := R
  obtain ⟨o, d, n, m, κ, v, k, R, uu, rfl, ⟨dx, kvs, ho, hd, hK⟩, hU, hk, hop, hsz, q, qE⟩ := h
  have hκ : κ.length ≤ 20 := Nat.le_trans hU.len (by decide)
  have hκs : ∀ q ∈ κ, q.2.size ≤ 1000 := fun q hq => Nat.le_trans (hU.bd q hq).size (by decide)
  have hu := hu_of hr
  refine ⟨_, (pss_cons (ps_set (i := 3) scOutside.nd rfl (Or.inl rfl) pe_dnewK)
    (pss_cons (ps_set (i := 4) scOutside.nd rfl (Or.inl rfl) (pe_lst (pa_cons (pv 2) pa_nil)))
    (pss_one (ps_while (passes_of rfl) (pt_truth (pv 4) (fun _ => rfl))
      (pss_cons (ps_set (i := 5) scOutside.nd rfl (Or.inl rfl) (pe_bm0 PySem.F.plainAttrs_list PySem.F.slot_list_pop PySem.F.type_list_pop mt_pop (pv 4)))
    (pss_one (ps_if (pt_cmpR op_ne (pe_ix ix_tup (pv 5) pe_int (fun _ _ => rfl)) pe_str (nomark _))
      (pss_one (ps_expr (pe_bm PySem.F.plainAttrs_list PySem.F.slot_list_extend PySem.F.type_list_extend mt_extendT (pv 4) (pa_cons (C8.pe_c ckind_parts hr (by decide) rfl (pa_cons (pv 5) pa_nil)) pa_nil))))
      (pss_one (ps_if (pt_cmpR op_eq (pe_ix ix_tup (pv 5) pe_int (fun _ _ => rfl)) (pv 1) (nomark _))
      (pss_one (ps_raise rfl (takes_of rfl rfl rfl rfl) (pmk_own0 PySem.F.excBase_ValueError RE.q RE.g RE.k (raises_own RE.s RE.t) rfl)))
      (pss_one (ps_if (PW.pt (pw_and (pt_cmp (pc_din hu (pe_ix ix_tup (pv 5) pe_int (fun _ _ => rfl)) (pe_fld (pv 0) rfl))) (pw_and1 (pt_cmp (pc_dnotin hu (pe_ix ix_tup (pv 5) pe_int (fun _ _ => rfl)) (pv 3))))))
      (pss_cons (ps_dput hu (pv 3) (pe_ix ix_tup (pv 5) pe_int (fun _ _ => rfl)) pe_bl rfl)
    (pss_one (ps_expr (pe_bm PySem.F.plainAttrs_list PySem.F.slot_list_append PySem.F.type_list_append mt_append (pv 4) (pa_cons (pe_dget hu (pe_fld (pv 0) rfl) (pe_ix ix_tup (pv 5) pe_int (fun _ _ => rfl)) (fun _ _ => rfl)) pa_nil)))))
      pss_nil))))))))))), ?_⟩
  intro sd hsd
  have s1 := same_new hsd (.dK [])
  have e1 : upd H sd (.dK []) sd = some (.dK (setI [])) := upd_same
  generalize upd H sd (.dK []) = H1 at s1 e1 ⊢
  refine ⟨_, rfl, by show 1 ≤ sizeLine; decide, fun td htd => ?_⟩
  have s2 := same_new htd (.lst [v])
  have e2 : upd H1 td (.lst [v]) td = some (.lst [v]) := upd_same
  have nst : sd ≠ td := ne_of_none e1 htd
  have htd0 : H td = none := s1.free htd
  generalize upd H1 td (.lst [v]) = H2 at s2 e2 ⊢
  have hb0 := unseen_le [] κ hκs
  have hb1 : κ.length * 1001 ≤ 20 * 1001 := Nat.mul_le_mul_right _ hκ
  refine ⟨fun n' σ H3 => ∃ (v5 : Option V) (sn : List Int) (kl : List Kd) (st : List V), n' = Kd.sizes kl + unseen sn κ ∧ σ = [some (.ref o), some (.int m), some v, some (.ref sd), some (.ref td), v5] ∧ Same H H3 ∧ H3 sd = some (.dK (setI sn)) ∧ H3 td = some (.lst st) ∧ Kd.Ats H3 kl st ∧ Out R uu m k sn kl ∧ Kd.sizes kl + unseen sn κ ≤ 50000 ∧ sn.length ≤ 20 ∧ sn.Nodup ∧ (∀ x ∈ sn, x ∈ κ.map (·.1)),
    ⟨_, none, [], [k], [v], rfl, rfl, sameT s1 s2, s2 _ _ e1, e2, ⟨v, [], rfl, hk.keep (tk_same (sameT s1 s2)), rfl⟩, out_start, (by show k.size + 0 + _ ≤ _; omega), Nat.zero_le _, List.nodup_nil, fun x hx => absurd hx List.not_mem_nil⟩, ?_⟩
  rintro n' σ H3 ⟨v5, sn, kl, st, rfl, rfl, s3, hs3, ht3, hats, hno, hbd, hsn, hnd, hsub⟩
  refine ⟨_, rfl, _, .inl ⟨_, SqL.of ht3, rfl⟩, ?_⟩
  have hl := hats.len
  rcases List.eq_nil_or_concat st with rfl | ⟨st', x, rfl⟩
  · refine iteF ?_
    exact q (hno.none hl) H3 s3
  · rw [List.concat_eq_append] at *
    obtain ⟨kl', t, rfl, hats', hx⟩ := atsSnoc hats
    have ne : (!(st' ++ [x]).isEmpty) = true := by cases st' <;> rfl
    rw [ne]
    refine iteT ?_
    have esz : Kd.sizes (kl' ++ [t]) = Kd.sizes kl' + t.size := by
      rw [Kd.sizes_app]
      show _ + (t.size + 0) = _
      omega
    have tpos := size_pos t
    refine ⟨fun σ' H' => ∃ (v5 : Option V) (sn' : List Int) (kl : List Kd) (st : List V), Kd.sizes kl + unseen sn' κ < Kd.sizes (kl' ++ [t]) + unseen sn κ ∧ σ' = [some (.ref o), some (.int m), some v, some (.ref sd), some (.ref td), v5] ∧ Same H H' ∧ H' sd = some (.dK (setI sn')) ∧ H' td = some (.lst st) ∧ Kd.Ats H' kl st ∧ Out R uu m k sn' kl ∧ Kd.sizes kl + unseen sn' κ ≤ 50000 ∧ sn'.length ≤ 20 ∧ sn'.Nodup ∧ (∀ x ∈ sn', x ∈ κ.map (·.1)),
      fun σ' H' ⟨v5, sn', kl, st, lt, rest⟩ => ⟨_, lt, v5, sn', kl, st, rfl, rest⟩, ?_⟩
    refine ⟨_, rfl, .inl ⟨rfl, _, SqL.of ht3⟩, td, _, x, rfl, rfl, ht3, by simp, ?_⟩
    rw [List.dropLast_concat]
    have t4 : TK H3 (upd H3 td (.lst st')) := tk_list ht3
    have ht4 : upd H3 td (.lst st') td = some (.lst st') := upd_same
    have hs4 : upd H3 td (.lst st') sd = some (.dK (setI sn)) := by rw [upd_ne nst]; exact hs3
    have s4 : Same H (upd H3 td (.lst st')) := same_upd htd0 s3 _
    generalize upd H3 td (.lst st') = H4 at t4 ht4 hs4 s4
    have hx4 := hx.keep t4
    have hats4 := hats'.keep t4
    have hl4 := hats4.len
    have hz4 := Kd.sizes_len kl'
    cases hm : t.isM with
    | false =>
      obtain ⟨a, r, rfl, ha⟩ := id hx4.tup
      refine ⟨_, rfl, a, _, 0, .str t.word, rfl, rfl, SqT.of ha, at0 _ _, rfl, _, rfl, ?_⟩
      show if (!decide (V.str t.word = V.str "meta")) = true then _ else _
      rw [wne (t.isM_word hm)]
      refine iteT ?_
      refine ⟨_, rfl, .inl ⟨rfl, _, SqL.of ht4⟩, _, rfl, _, t, rfl, hx4, fun b1 xs1 H5 s5 hb1 ats1 => ?_⟩
      have hp1 := Kd.size_parts t
      have hp2 := Kd.sizes_len t.parts
      have hp3 := ats1.len
      refine ⟨td, b1, st', xs1, rfl, rfl, s5 _ _ ht4, SqT.of hb1, Nat.le_of_lt (szl (by omega)), ?_⟩
      have t6 : TK H5 (upd H5 td (.lst (st' ++ xs1))) := tk_list (s5 _ _ ht4)
      refine ⟨_, sn, kl' ++ t.parts, st' ++ xs1, ?_, rfl, same_upd htd0 (sameT s4 s5) _, by rw [upd_ne nst]; exact s5 _ _ hs4, upd_same, Kd.Ats.app ((hats4.keep (tk_same s5)).keep t6) (ats1.keep t6), hno.parts hm, ?_, hsn, hnd, hsub⟩
      · rw [Kd.sizes_app]
        omega
      · rw [Kd.sizes_app]
        omega
    | true =>
      cases t with
      | mt i =>
        obtain ⟨a, rfl, ha⟩ := id hx4
        refine ⟨_, rfl, a, _, 0, .str "meta", rfl, rfl, SqT.of ha, at0 _ _, rfl, _, rfl, ?_⟩
        show if (!decide (V.str "meta" = V.str "meta")) = true then _ else _
        rw [wtt]
        refine iteF ?_
        refine ⟨_, rfl, a, _, 1, .int i, rfl, rfl, SqT.of ha, at1 _ _ _, _, rfl, rfl, _, rfl, ?_⟩
        have goalE : i = m → (k.ms R).hasM m := fun e => hno.1 (.mt i) (List.mem_append_right _ (List.mem_singleton.mpr rfl)) (by
          rw [e]
          show (R m).hasM m
          rw [hU.opn m hop]
          exact rfl)
        by_cases him : i = m
        · have z : decide (V.int i = V.int m) = true := decide_eq_true (by rw [him])
          show if decide (V.int i = V.int m) = true then _ else _
          rw [z]
          refine iteT ?_
          exact qE (goalE him) H4 s4
        have z : decide (V.int i = V.int m) = false := decide_eq_false fun e => him (V.int.inj e)
        show if decide (V.int i = V.int m) = true then _ else _
        rw [z]
        refine iteF ?_
        have ho4 := s4 _ _ ho
        have hd4 := s4 _ _ hd
        have hK4 := hK.keep (tk_same s4)
        refine ⟨_, rfl, a, _, 1, .int i, rfl, rfl, SqT.of ha, at1 _ _ _, _, rfl, o, C, dx, _, .ref d, rfl, ho4, T.cl, T.nK, fldU_known n d, d, _, rfl, DGet.k (k := Sum.inl i) hd4, _, rfl, ?_⟩
        have skip : Kd.sizes kl' + unseen sn κ < Kd.sizes (kl' ++ [Kd.mt i]) + unseen sn κ := by omega
        rcases hK4.look i with ⟨l1, l2⟩ | ⟨t', v', l1, l2, l3⟩
        · rw [l2]
          refine iteF (iteF ?_)
          exact ⟨_, sn, kl', st', skip, rfl, s4, hs4, ht4, hats4, hno.opn him (hU.opn i l1), by omega, hsn, hnd, hsub⟩
        · rw [l2]
          refine iteT ?_
          refine ⟨_, rfl, a, _, 1, .int i, rfl, rfl, SqT.of ha, at1 _ _ _, _, rfl, sd, _, rfl, DGet.k (k := Sum.inl i) hs4, _, rfl, ?_⟩
          rw [get_setI]
          by_cases hin : i ∈ sn
          · rw [if_pos hin]
            refine iteF ?_
            exact ⟨_, sn, kl', st', skip, rfl, s4, hs4, ht4, hats4, hno.seen hin, by omega, hsn, hnd, hsub⟩
          · rw [if_neg hin]
            refine iteT ?_
            have hua := unseen_add (t := t') hin l1
            have hnd2 : (sn ++ [i]).Nodup := List.nodup_append.mpr ⟨hnd, List.pairwise_singleton _ _, fun x hx y hy e => hin (by rw [← List.mem_singleton.mp hy, ← e]; exact hx)⟩
            have hsub2 : ∀ x ∈ sn ++ [i], x ∈ κ.map (·.1) := fun x hx => (List.mem_append.mp hx).elim (hsub x) fun e => by rw [List.mem_singleton.mp e]; exact List.mem_map.mpr ⟨(i, t'), l1, rfl⟩
            have hlen2 : (sn ++ [i]).length ≤ 20 := by
              have z := nodupI_len hnd2 hsub2
              rw [List.length_map] at z
              omega
            refine ⟨_, rfl, _, rfl, a, _, 1, .int i, rfl, rfl, SqT.of ha, at1 _ _ _, sd, _, rfl, DPut.k (k := Sum.inl i) hs4 (by unfold setI; rw [List.length_map]; exact szl (by omega)), ?_⟩
            have t5 : TK H4 (upd H4 sd (.dK (putK (setI sn) (Sum.inl i) (V.bl true)))) := tk_dict hs4
            have s5 := same_upd hsd s4 (.dK (putK (setI sn) (Sum.inl i) (V.bl true)))
            have hs5 : upd H4 sd (.dK (putK (setI sn) (Sum.inl i) (V.bl true))) sd = some (.dK (setI (sn ++ [i]))) := by rw [upd_same, put_setI hin]
            have ht5 : upd H4 sd (.dK (putK (setI sn) (Sum.inl i) (V.bl true))) td = some (.lst st') := by rw [upd_ne nst.symm]; exact ht4
            generalize upd H4 sd (.dK (putK (setI sn) (Sum.inl i) (V.bl true))) = H5 at t5 s5 hs5 ht5 ⊢
            refine ⟨_, rfl, .inl ⟨rfl, _, SqL.of ht5⟩, _, rfl, o, C, dx, _, .ref d, rfl, s5 _ _ ho, T.cl, T.nK, fldU_known n d, _, rfl, a, _, 1, .int i, rfl, rfl, SqT.of (t5 _ _ ha), at1 _ _ _, d, v', rfl, l2 ▸ DGet.k (k := Sum.inl i) (s5 _ _ hd), td, _, _, rfl, rfl, ht5, szl (by omega), ?_⟩
            have t6 : TK H5 (upd H5 td (.lst (st' ++ [v']))) := tk_list ht5
            refine ⟨_, sn ++ [i], kl' ++ [t'], st' ++ [v'], ?_, rfl, same_upd htd0 s5 _, by rw [upd_ne nst]; exact hs5, upd_same, Kd.Ats.app (hats4.keep (t5.trans t6)) ⟨v', [], rfl, l3.keep (t5.trans t6), rfl⟩, hno.new (hU.solves (i, t') l1) (hU.cost (i, t') l1), ?_, hlen2, hnd2, hsub2⟩
            · rw [Kd.sizes_app]
              show _ + (t'.size + 0) + _ < _
              omega
            · rw [Kd.sizes_app]
              show _ + (t'.size + 0) + _ ≤ _
              omega
      | nm s => cases hm
      | fn a b => cases hm
      | cn s l => cases hm
end
end Toy

set_option Elab.async false
set_option linter.all false
set_option maxRecDepth 100000
set_option maxHeartbeats 4000000
/-! Part S: notes, or the error. -/
namespace Toy
open PySem L2
open PyProof.Rows (envOfC)
section
variable {P : Program} {w : World} {K : PySem.W.Frag} {mg : Str → Option Value} {base : Heap} {C : Addr}
abbrev sNote : Stmt := inClass (topS 9) 5
theorem scNote : FnScope ["self", "number", "kind"] ["self", "number", "kind"] (defScope sNote) := ⟨rfl, rfl, rfl, by decide +kernel, rfl, by decide +kernel, by decide +kernel⟩
def spNote (C CE : Addr) : Sp := fun vs H Q E => ∃ (o d : Addr) (n m : Int) (κ : Kn) (v : V) (k : Kd) (R : Int → Kd) (uu : Int → Nat), vs = [.ref o, .int m, v] ∧ Un C H o d n κ ∧ Unj R uu κ ∧ k.At H v ∧ m ∈ six ∧ Bd 7 3 k ∧ (∀ q ∈ κ, q.1 ≠ m) ∧ (∀ i, k = .mt i → ∀ q ∈ κ, q.1 ≠ i) ∧
  (∀ (κ' : Kn) (R' : Int → Kd) (uu' : Int → Nat) (H' : Hp), Keep d H H' → Un C H' o d n κ' → Unj R' uu' κ' → (∀ S, Solves' S κ' ↔ Solves' S κ ∧ S m = k.ms S) → (R' = R ∧ κ' = κ ∨ κ'.length = κ.length + 1) → Q .non H') ∧
  ((∀ S, Solves' S κ → S m ≠ k.ms S) → ∀ H', Keep d H H' → E (.ref CE) none H')
theorem c_note {f CE : Addr} {fd : FuncData} (T : TxtU K mg C) (ccheck_outside : MetX P w K mg base 2 C "check_outside" (spOutside C CE)) (me : Meth K C "note" f) (F : Fun K "note" "Unifier.note" sNote f fd) (b : Binds K fd ["self", "number", "kind"] []) : MetX P w K mg base 3 C "note" (spNote C CE) := by
  refine metX_of T.cl me F b scNote (fun vs H Q E h => ?_) (fun cdv A outer s H vs Q E hr h => ?_)
  · obtain ⟨o, d, n, m, κ, v, k, R, uu, rfl, _⟩ := h
    rfl
  obtain ⟨o, d, n, m, κ, v, k, R, uu, rfl, ⟨dx, kvs, ho, hd, hK⟩, hU, hk, hm6, hbd, hop, hopk, q, qE⟩ := h
  have hu := hu_of hr
  have mno : ¬ ("check_outside" : Str) = "made" ∧ ¬ ("check_outside" : Str) = "known" := by decide +kernel
  refine ⟨_, (pss_cons (ps_if (PW.pt (pw_and (pt_cmpR op_eq (pe_ix ix_tup (pv 2) pe_int (fun _ _ => rfl)) pe_str (nomark _)) (pw_and1 (pt_cmpR op_eq (pe_ix ix_tup (pv 2) pe_int (fun _ _ => rfl)) (pv 1) (nomark _)))))
      (pss_one ps_retN)
      pss_nil)
    (pss_cons (ps_expr (pe_mx ccheck_outside hr (by decide) (takes_of rfl rfl rfl rfl) (pv 0) (pa_cons (pv 1) (pa_cons (pv 2) pa_nil))))
    (pss_one (ps_dput hu (pe_fld (pv 0) rfl) (pv 1) (pv 2) rfl)))), ?_⟩
  have fin : ¬ (k.ms R).hasM m → ∀ H2 : Hp, Same H H2 → κ.length ≤ 4 → ∃ kvs', H2 d = some (.dK kvs') ∧ kvs'.length < sizeLine ∧ Q .non (upd H2 d (.dK (putK kvs' (Sum.inl m) v))) := fun hout H2 s2 hl => by
    have hd2 := s2 _ _ hd
    have hK2 := hK.keep (tk_same s2)
    have hkl := hK.len
    have none : valV kvs (Sum.inl m) = none := by
      rcases hK.look m with ⟨_, l2⟩ | ⟨t, v', l1, _, _⟩
      · exact l2
      · exact (hop _ l1 rfl).elim
    obtain ⟨u', hU'⟩ := hU.add hop hm6 hbd hout
    refine ⟨kvs, hd2, szl (by omega), ?_⟩
    have tk : TK H2 (upd H2 d (.dK (putK kvs (Sum.inl m) v))) := tk_dict hd2
    have nod : o ≠ d := fun e => by rw [e, hd] at ho; cases ho
    refine q (κ ++ [(m, k)]) _ u' _ (fun b u nb e => by rw [upd_ne nb]; exact s2 _ _ e) ⟨dx, kvs ++ [(Sum.inl m, v)], by rw [upd_ne nod]; exact s2 _ _ ho, by rw [upd_same, putK_new _ none], ((hK2.keep tk).add ((hk.keep (tk_same s2)).keep tk))⟩ hU' (fun S => ⟨fun hS => ⟨fun p hp => hS p (List.mem_append_left _ hp), hS (m, k) (List.mem_append_right _ (List.mem_singleton.mpr rfl))⟩, fun ⟨g1, g2⟩ p hp => (List.mem_append.mp hp).elim (g1 p) fun e => by rw [List.mem_singleton.mp e]; exact g2⟩) (.inr (by rw [List.length_append]; rfl))
  have hl6 := hU.len
  cases hmm : k.isM with
  | false =>
    have hne : ¬ k = .mt m := fun e => by rw [e] at hmm; cases hmm
    obtain ⟨a, r, rfl, ha⟩ := id hk.tup
    refine ⟨_, rfl, a, _, 0, .str k.word, rfl, rfl, SqT.of ha, at0 _ _, rfl, _, rfl, ?_⟩
    show if decide (V.str k.word = V.str "meta") = true then _ else _
    rw [wne (k.isM_word hmm)]
    refine iteF (iteF ?_)
    have noS : (k.ms R).hasM m → ∀ S, Solves' S κ → S m ≠ k.ms S := fun hh S hS e => hU.occurs hop (fun i e => ⟨fun e2 => hne (by rw [e, e2]), hopk i e⟩) hh S hS e
    refine ⟨_, rfl, o, dx, _, rfl, ho, fldU_no _ _ mno.1 mno.2, _, rfl, _, rfl, o, d, n, m, κ, _, _, R, uu, rfl, ⟨dx, kvs, ho, hd, hK⟩, hU, hk, hop, hbd.size, fun hout H2 s2 => ?_, fun hh H2 s2 => qE (noS hh) H2 (Keep.same s2)⟩
    obtain ⟨kvs', g1, g2, g3⟩ := fin hout H2 s2 hl6
    exact ⟨_, rfl, _, rfl, o, C, dx, _, .ref d, rfl, s2 _ _ ho, T.cl, T.nK, fldU_known n d, _, rfl, d, _, rfl, DPut.k (k := Sum.inl m) g1 g2, g3⟩
  | true =>
    cases k with
    | mt i =>
      obtain ⟨a, rfl, ha⟩ := id hk
      refine ⟨_, rfl, a, _, 0, .str "meta", rfl, rfl, SqT.of ha, at0 _ _, rfl, _, rfl, ?_⟩
      show if decide (V.str "meta" = V.str "meta") = true then _ else _
      rw [wtt]
      refine iteT ?_
      refine ⟨_, rfl, a, _, 1, .int i, rfl, rfl, SqT.of ha, at1 _ _ _, _, rfl, rfl, _, rfl, ?_⟩
      by_cases him : i = m
      · have z : decide (V.int i = V.int m) = true := by rw [him]; exact decide_eq_true rfl
        show if decide (V.int i = V.int m) = true then _ else _
        rw [z]
        refine iteT ?_
        exact q κ R uu H (fun _ _ _ e => e) ⟨dx, kvs, ho, hd, hK⟩ hU (fun S => ⟨fun hS => ⟨hS, by rw [him]; rfl⟩, fun h => h.1⟩) (.inl ⟨rfl, rfl⟩)
      · have hne : ¬ Kd.mt i = .mt m := fun e => him (by injection e)
        have z : decide (V.int i = V.int m) = false := decide_eq_false fun e => him (V.int.inj e)
        show if decide (V.int i = V.int m) = true then _ else _
        rw [z]
        refine iteF ?_
        have noS : ((Kd.mt i).ms R).hasM m → ∀ S, Solves' S κ → S m ≠ (Kd.mt i).ms S := fun hh S hS e => hU.occurs hop (fun j e => ⟨fun e2 => hne (by rw [e, e2]), hopk j e⟩) hh S hS e
        refine ⟨_, rfl, o, dx, _, rfl, ho, fldU_no _ _ mno.1 mno.2, _, rfl, _, rfl, o, d, n, m, κ, _, _, R, uu, rfl, ⟨dx, kvs, ho, hd, hK⟩, hU, hk, hop, hbd.size, fun hout H2 s2 => ?_, fun hh H2 s2 => qE (noS hh) H2 (Keep.same s2)⟩
        obtain ⟨kvs', g1, g2, g3⟩ := fin hout H2 s2 hl6
        exact ⟨_, rfl, _, rfl, o, C, dx, _, .ref d, rfl, s2 _ _ ho, T.cl, T.nK, fldU_known n d, _, rfl, d, _, rfl, DPut.k (k := Sum.inl m) g1 g2, g3⟩
    | nm s => cases hmm
    | fn a b => cases hmm
    | cn s l => cases hmm
end
end Toy

set_option Elab.async false
set_option linter.all false
set_option maxRecDepth 100000
set_option maxHeartbeats 4000000
/-! Part U: types made equal, or the error. -/
namespace Toy
open PySem L2
open PyProof.Rows (envOfC)
/-- pairs on a stack, not too deep where they stand -/
def Stk (R : Int → Kd) : Nat → Nat → List (Kd × Kd) → Prop
  | _, _, [] => True
  | i, c, q :: L => 6 * (q.1.ms R).dep + i ≤ c ∧ Stk R (i + 1) c L
theorem stk_app {R : Int → Kd} {c : Nat} : ∀ {M : List (Kd × Kd)} {i : Nat} {L : List (Kd × Kd)}, Stk R i c (M ++ L) ↔ Stk R i c M ∧ Stk R (i + M.length) c L
  | [], i, L => by rw [List.nil_append]; exact ⟨fun h => ⟨trivial, h⟩, fun h => h.2⟩
  | q :: M, i, L => by
    rw [List.cons_append, Stk, stk_app (M := M), Stk, List.length_cons, show i + 1 + M.length = i + (M.length + 1) by omega]
    exact and_assoc.symm
theorem stk_all {R : Int → Kd} {c N : Nat} : ∀ {L : List (Kd × Kd)} {i : Nat}, (∀ q ∈ L, (q.1.ms R).dep ≤ N) → (L.length = 0 ∨ 6 * N + i + L.length ≤ c + 1) → Stk R i c L
  | [], _, _, _ => trivial
  | q :: L, i, h, hc => by
    have h1 := h q (List.mem_cons_self ..)
    rw [List.length_cons] at hc
    exact ⟨by omega, stk_all (fun q hq => h q (List.mem_cons_of_mem _ hq)) (by omega)⟩
theorem stk_any {R : Int → Kd} {c : Nat} {L : List (Kd × Kd)} (h : ∀ q ∈ L, (q.1.ms R).dep ≤ 15) (hc : 90 + L.length ≤ c + 1) : Stk R 0 c L := stk_all h (by omega)
theorem psum_le {R : Int → Kd} {B : Nat} : ∀ {L : List (Kd × Kd)}, (∀ q ∈ L, (q.1.ms R).size ≤ B) → psum R L ≤ L.length * B
  | [], _ => Nat.zero_le _
  | q :: L, h => by
    have h1 := h q (List.mem_cons_self ..)
    have h2 := psum_le (L := L) fun q hq => h q (List.mem_cons_of_mem _ hq)
    show (q.1.ms R).size + psum R L ≤ (L.length + 1) * B
    rw [Nat.add_mul]
    omega
theorem lay_part : ∀ {k c : Kd}, c ∈ k.parts → k.lay = true → c.lay = true
  | .nm s, c, h, _ => by cases h
  | .mt i, c, h, _ => by cases h
  | .fn a b, c, h, e => by
    have e : (a.lay && b.lay) = true := e
    rw [Bool.and_eq_true] at e
    rcases List.mem_cons.mp h with z | z
    · rw [z]; exact e.1
    · rw [List.mem_singleton.mp z]; exact e.2
  | .cn s l, c, h, e => by
    have e : (PyData.strOk s && Kd.lays l) = true := e
    rw [Bool.and_eq_true] at e
    exact lays_mem e.2 h
theorem dep_part : ∀ {k c : Kd}, c ∈ k.parts → c.dep + 1 ≤ k.dep
  | .nm s, c, h => by cases h
  | .mt i, c, h => by cases h
  | .fn a b, c, h => by
    show _ ≤ 1 + max a.dep b.dep
    rcases List.mem_cons.mp h with z | z
    · rw [z]; omega
    · rw [List.mem_singleton.mp z]; omega
  | .cn s l, c, h => by
    have := deps_mem (show c ∈ l from h)
    show _ ≤ 1 + Kd.deps l
    omega
theorem size_part : ∀ {k c : Kd}, c ∈ k.parts → c.size + 1 ≤ k.size := fun {k c} h => by
  have h1 := size_mem h
  have h2 := Kd.size_parts k
  omega
theorem bins_mem : ∀ {l : List Kd} {c : Kd}, Kd.bins l → c ∈ l → c.bin
  | k :: l, c, h, hc => by
    rcases List.mem_cons.mp hc with e | e
    · rw [e]; exact h.1
    · exact bins_mem h.2 e
theorem bin_part : ∀ {k c : Kd}, c ∈ k.parts → k.bin → c.bin
  | .nm s, c, h, _ => by cases h
  | .mt i, c, h, _ => by cases h
  | .fn a b, c, h, e => by
    rcases List.mem_cons.mp h with z | z
    · rw [z]; exact e.1
    · rw [List.mem_singleton.mp z]; exact e.2
  | .cn s l, c, h, e => bins_mem e.2 h
theorem bin_two : ∀ {k : Kd}, k.bin → k.parts.length ≤ 2
  | .nm s, _ => by show 0 ≤ 2; decide
  | .mt i, _ => by show 0 ≤ 2; decide
  | .fn a b, _ => Nat.le_refl _
  | .cn s l, h => h.1
theorem bd_part {M N : Nat} {k c : Kd} (h : c ∈ k.parts) (b : Bd M N k) : Bd M N c := by
  have h1 := dep_part h
  have h2 := size_part h
  have h3 := b.size
  have h4 := b.dep
  exact ⟨by omega, by omega, lay_part h b.lay, inS_part h b.ins, bin_part h b.bin⟩
theorem ms_part (f : Int → Kd) : ∀ {k c : Kd}, k.isM = false → c ∈ k.parts → c.ms f ∈ (k.ms f).parts
  | .nm s, c, _, h => by cases h
  | .mt i, c, e, _ => by cases e
  | .fn a b, c, _, h => by
    rcases List.mem_cons.mp h with z | z
    · rw [z]; exact List.mem_cons_self ..
    · rw [List.mem_singleton.mp z]; exact List.mem_cons_of_mem _ (List.mem_cons_self ..)
  | .cn s l, c, _, h => by
    show c.ms f ∈ Kd.mss f l
    rw [Kd.mss_map]
    exact List.mem_map_of_mem h
theorem part_dep (f : Int → Kd) {k c : Kd} (e : k.isM = false) (h : c ∈ k.parts) : (c.ms f).dep + 1 ≤ (k.ms f).dep := dep_part (ms_part f e h)
section
variable {P : Program} {w : World} {K : PySem.W.Frag} {mg : Str → Option Value} {base : Heap} {C : Addr}
abbrev sUnify : Stmt := inClass (topS 9) 3
theorem scUnify : FnScope ["self", "one", "other", "todo", "left", "right"] ["self", "one", "other"] (defScope sUnify) := ⟨rfl, rfl, rfl, by decide +kernel, rfl, by decide +kernel, by decide +kernel⟩
def spUnify (C CE : Addr) : Sp := fun vs H Q E => ∃ (o d : Addr) (n : Int) (κ : Kn) (va vb : V) (a b : Kd) (R : Int → Kd) (uu : Int → Nat), vs = [.ref o, va, vb] ∧ Un C H o d n κ ∧ Unj R uu κ ∧ a.At H va ∧ b.At H vb ∧ Bd 7 3 a ∧ Bd 7 3 b ∧
  (∀ (κ' : Kn) (R' : Int → Kd) (uu' : Int → Nat) (H' : Hp), Keep d H H' → Un C H' o d n κ' → Unj R' uu' κ' → (∀ S, Solves' S κ' ↔ Solves' S κ ∧ a.ms S = b.ms S) → Q .non H') ∧
  ((∀ S, Solves' S κ → a.ms S ≠ b.ms S) → ∀ H', Keep d H H' → E (.ref CE) none H')
theorem c_unify {f CE : Addr} {fd : FuncData} (T : TxtU K mg C) (RE : ErrU K mg CE) (cshown : C8.Met P w K mg base 1 C "shown" (spShown C) []) (cnote : MetX P w K mg base 3 C "note" (spNote C CE)) (calike : C8.Cal P w K mg base 2 "alike" spAlike []) (ckind_parts : C8.Cal P w K mg base 1 "kind_parts" (spParts K) [])
    (me : Meth K C "unify" f) (F : Fun K "unify" "Unifier.unify" sUnify f fd) (b : Binds K fd ["self", "one", "other"] []) : MetX P w K mg base 4 C "unify" (spUnify C CE) := by
  refine metX_of T.cl me F b scUnify (fun vs H Q E h => ?_) (fun cdv A outer s H vs Q E hr h => ?_)
  · obtain ⟨o, d, n, κ, va, vb, a, b, R, uu, rfl, _⟩ := h
    rfl
  obtain ⟨o, d, n, κ, va, vb, ka, kb, R, uu, rfl, hUn, hU, hka, hkb, hia, hib, q, qE⟩ := h
  have hu := hu_of hr
  have mno : (¬ ("shown" : Str) = "made" ∧ ¬ ("shown" : Str) = "known") ∧ (¬ ("note" : Str) = "made" ∧ ¬ ("note" : Str) = "known") := by decide +kernel
  refine ⟨_, (pss_cons (ps_set (i := 3) scUnify.nd rfl (Or.inl rfl) (pe_lst (pa_cons (pe_tup (pa_cons (pv 1) (pa_cons (pv 2) pa_nil))) pa_nil)))
    (pss_one (ps_while (passes_of rfl) (pt_truth (pv 3) (fun _ => rfl))
      (pss_cons (ps_asg (pe_bm0 PySem.F.plainAttrs_list PySem.F.slot_list_pop PySem.F.type_list_pop mt_pop (pv 3)) (pg_tup rfl (pgs_cons (pg_name (i := 4) scUnify.nd rfl (Or.inl rfl)) (pgs_cons (pg_name (i := 5) scUnify.nd rfl (Or.inl rfl)) pgs_nil))))
    (pss_cons (ps_set (i := 4) scUnify.nd rfl (Or.inl rfl) (C8.pe_mt cshown hr (by decide) (pv 0) (pa_cons (pv 4) pa_nil)))
    (pss_cons (ps_set (i := 5) scUnify.nd rfl (Or.inl rfl) (C8.pe_mt cshown hr (by decide) (pv 0) (pa_cons (pv 5) pa_nil)))
    (pss_one (ps_if (pt_cmpR op_eq (pe_ix ix_tup (pv 4) pe_int (fun _ _ => rfl)) pe_str (nomark _))
      (pss_one (ps_expr (pe_mx cnote hr (by decide) (takes_of rfl rfl rfl rfl) (pv 0) (pa_cons (pe_ix ix_tup (pv 4) pe_int (fun _ _ => rfl)) (pa_cons (pv 5) pa_nil)))))
      (pss_one (ps_if (pt_cmpR op_eq (pe_ix ix_tup (pv 5) pe_int (fun _ _ => rfl)) pe_str (nomark _))
      (pss_one (ps_expr (pe_mx cnote hr (by decide) (takes_of rfl rfl rfl rfl) (pv 0) (pa_cons (pe_ix ix_tup (pv 5) pe_int (fun _ _ => rfl)) (pa_cons (pv 4) pa_nil)))))
      (pss_one (ps_if (pt_val (C8.pe_c calike hr (by decide) rfl (pa_cons (pv 4) (pa_cons (pv 5) pa_nil))))
      (pss_one (ps_expr (pe_bm PySem.F.plainAttrs_list PySem.F.slot_list_extend PySem.F.type_list_extend mt_extend (pv 3) (pa_cons (pe_listZip rfl rfl T.zlist boot_list rfl T.zzip (pa_cons (C8.pe_c ckind_parts hr (by decide) rfl (pa_cons (pv 4) pa_nil)) (pa_cons (C8.pe_c ckind_parts hr (by decide) rfl (pa_cons (pv 5) pa_nil)) pa_nil))) pa_nil))))
      (pss_one (ps_raise rfl (takes_of rfl rfl rfl rfl) (pmk_own0 PySem.F.excBase_ValueError RE.q RE.g RE.k (raises_own RE.s RE.t) rfl))))))))))))))), ?_⟩
  refine ⟨_, rfl, _, rfl, by show 2 ≤ sizeLine; decide, fun tp htp => ?_⟩
  have s1 := same_new htp (.tup [va, vb])
  have e1 : upd H tp (.tup [va, vb]) tp = some (.tup [va, vb]) := upd_same
  generalize upd H tp (.tup [va, vb]) = H1 at s1 e1 ⊢
  refine ⟨by show 1 ≤ sizeLine; decide, fun td htd => ?_⟩
  have s2 := same_new htd (.lst [.ref tp])
  have e2 : upd H1 td (.lst [.ref tp]) td = some (.lst [.ref tp]) := upd_same
  have htd0 : H td = none := s1.free htd
  generalize upd H1 td (.lst [.ref tp]) = H2 at s2 e2 ⊢
  have s12 := sameT s1 s2
  have ntd : td ≠ d := fun e => by
    obtain ⟨dx, kvs, _, hd, _⟩ := hUn
    rw [e, hd] at htd0
    cases htd0
  have nto : td ≠ o := fun e => by
    obtain ⟨dx, kvs, ho, _, _⟩ := hUn
    rw [e, ho] at htd0
    cases htd0
  refine ⟨fun n' σ H3 => ∃ (v4 v5 : Option V) (κ2 : Kn) (R2 : Int → Kd) (u2 : Int → Nat) (L : List (Kd × Kd)) (st : List Addr), n' = (4 - κ2.length) * 10000000 + psum R2 L ∧ σ = [some (.ref o), some va, some vb, some (.ref td), v4, v5] ∧ Keep d H H3 ∧ Un C H3 o d n κ2 ∧ Unj R2 u2 κ2 ∧ H3 td = some (.lst (st.map V.ref)) ∧ PairsAt H3 st L ∧ (∀ q ∈ L, Bd 7 3 q.1 ∧ Bd 7 3 q.2) ∧ Stk R2 0 (90 * (1 + κ2.length)) L ∧
      (∀ S, (Solves' S κ ∧ ka.ms S = kb.ms S) ↔ (Solves' S κ2 ∧ ∀ q ∈ L, q.1.ms S = q.2.ms S)),
    ⟨_, none, none, κ, R, uu, [(ka, kb)], [tp], rfl, rfl, Keep.same s12, hUn.same s12, hU, e2, ⟨ka, kb, va, vb, [], rfl, s2 _ _ e1, hka.keep (tk_same s12), hkb.keep (tk_same s12), rfl⟩, (fun q hq => by rw [List.mem_singleton.mp hq]; exact ⟨hia, hib⟩), ⟨by have z := (hU.bdK hia).dep; show 6 * (ka.ms R).dep + 0 ≤ _; omega, trivial⟩, fun S => ⟨fun ⟨g1, g2⟩ => ⟨g1, fun q hq => by rw [List.mem_singleton.mp hq]; exact g2⟩, fun ⟨g1, g2⟩ => ⟨g1, g2 (ka, kb) (List.mem_singleton.mpr rfl)⟩⟩⟩, ?_⟩
  rintro n' σ H3 ⟨v4, v5, κ2, R2, u2, L, st, rfl, rfl, kp3, hUn3, hU3, htd3, hL3, hg, hstk, hS3⟩
  refine ⟨_, rfl, _, .inl ⟨_, SqL.of htd3, rfl⟩, ?_⟩
  rcases List.eq_nil_or_concat st with rfl | ⟨st', t, rfl⟩
  · refine iteF ?_
    have eL : L = [] := hL3
    subst eL
    exact q κ2 R2 u2 H3 kp3 hUn3 hU3 fun S => ⟨fun hS => (hS3 S).mpr ⟨hS, fun q hq => by cases hq⟩, fun h => ((hS3 S).mp h).1⟩
  · rw [List.concat_eq_append] at *
    obtain ⟨M, p, k, x, y, rfl, hM3, ht3, hx3, hy3⟩ := hL3.snoc
    have ne : (!((st' ++ [t]).map V.ref).isEmpty) = true := by rw [List.map_append]; cases st'.map V.ref <;> rfl
    rw [ne]
    refine iteT ?_
    obtain ⟨N0, hN0⟩ : ∃ N0, N0 = (4 - κ2.length) * 10000000 + psum R2 (M ++ [(p, k)]) := ⟨_, rfl⟩
    rw [← hN0]
    refine ⟨fun σ' H3 => ∃ (v4 v5 : Option V) (κ2 : Kn) (R2 : Int → Kd) (u2 : Int → Nat) (L : List (Kd × Kd)) (st : List Addr), (4 - κ2.length) * 10000000 + psum R2 L < N0 ∧ σ' = [some (.ref o), some va, some vb, some (.ref td), v4, v5] ∧ Keep d H H3 ∧ Un C H3 o d n κ2 ∧ Unj R2 u2 κ2 ∧ H3 td = some (.lst (st.map V.ref)) ∧ PairsAt H3 st L ∧ (∀ q ∈ L, Bd 7 3 q.1 ∧ Bd 7 3 q.2) ∧ Stk R2 0 (90 * (1 + κ2.length)) L ∧
      (∀ S, (Solves' S κ ∧ ka.ms S = kb.ms S) ↔ (Solves' S κ2 ∧ ∀ q ∈ L, q.1.ms S = q.2.ms S)),
      fun σ' H' ⟨v4, v5, κ2, R2, u2, L, st, lt, rest⟩ => ⟨_, lt, v4, v5, κ2, R2, u2, L, st, rfl, rest⟩, ?_⟩
    obtain ⟨gp, gk⟩ := hg (p, k) (List.mem_append_right _ (List.mem_singleton.mpr rfl))
    have gp : Bd 7 3 p := gp
    have gk : Bd 7 3 k := gk
    have hgM : ∀ q ∈ M, Bd 7 3 q.1 ∧ Bd 7 3 q.2 := fun q hq => hg q (List.mem_append_left _ hq)
    have eps : psum R2 (M ++ [(p, k)]) = psum R2 M + (p.ms R2).size := by
      rw [psum_app]
      show _ + ((p.ms R2).size + 0) = _
      omega
    have ppos := size_pos (p.ms R2)
    obtain ⟨stM, stp, _⟩ := stk_app.mp hstk
    have stp : 6 * (p.ms R2).dep + (0 + M.length) ≤ 90 * (1 + κ2.length) := stp
    have l4 := hU3.len
    refine ⟨_, rfl, .inl ⟨rfl, _, SqL.of htd3⟩, td, _, .ref t, rfl, rfl, htd3, by rw [List.map_append]; simp, t, [x, y], rfl, ?_, rfl, _, _, rfl, _, _, rfl, rfl, ?_⟩
    · exact SqT.of (tk_list htd3 _ _ ht3)
    have eD : ((st' ++ [t]).map V.ref).dropLast = st'.map V.ref := by rw [List.map_append]; exact List.dropLast_concat
    rw [eD]
    have t4 : TK H3 (upd H3 td (.lst (st'.map V.ref))) := tk_list htd3
    have htd4 : upd H3 td (.lst (st'.map V.ref)) td = some (.lst (st'.map V.ref)) := upd_same
    have kp4 : Keep d H (upd H3 td (.lst (st'.map V.ref))) := fun b u nb e => by
      have z : b ≠ td := fun q => by rw [q, htd0] at e; cases e
      rw [upd_ne z]
      exact kp3 b u nb e
    have hUn4 : Un C (upd H3 td (.lst (st'.map V.ref))) o d n κ2 := by
      obtain ⟨dx, kvs, h1, h2, h3⟩ := hUn3
      exact ⟨dx, kvs, by rw [upd_ne nto.symm]; exact h1, by rw [upd_ne ntd.symm]; exact h2, h3.keep t4⟩
    generalize upd H3 td (.lst (st'.map V.ref)) = H4 at t4 htd4 kp4 hUn4
    have hx4 := hx3.keep t4
    have hy4 := hy3.keep t4
    have hM4 := hM3.keep t4
    obtain ⟨dx, kvs, ho4, hd4, hK4⟩ := id hUn4
    refine ⟨_, rfl, o, dx, _, rfl, ho4, fldU_no _ _ mno.1.1 mno.1.2, _, rfl, o, d, n, κ2, x, p, R2, R2, u2, rfl, hUn4, hU3.uni, hx4, fun x' p' hx' hS1 hop1 hor1 => ?_⟩
    refine ⟨_, rfl, o, dx, _, rfl, ho4, fldU_no _ _ mno.1.1 mno.1.2, _, rfl, o, d, n, κ2, y, k, R2, R2, u2, rfl, hUn4, hU3.uni, hy4, fun y' k' hy' hS2 hop2 hor2 => ?_⟩
    have gp' : Bd 7 3 p' := hor1.elim (fun e => by rw [e]; exact gp) fun ⟨q', h1, h2⟩ => h2 ▸ hU3.bd q' h1
    have gk' : Bd 7 3 k' := hor2.elim (fun e => by rw [e]; exact gk) fun ⟨q', h1, h2⟩ => h2 ▸ hU3.bd q' h1
    have ep : p'.ms R2 = p.ms R2 := (hS1 R2 hU3.solves).symm
    -- who solves: what is known, the pairs below, the pair that is shown
    have hS4 : ∀ S, (Solves' S κ ∧ ka.ms S = kb.ms S) ↔ ((Solves' S κ2 ∧ p'.ms S = k'.ms S) ∧ ∀ q ∈ M, q.1.ms S = q.2.ms S) := fun S => by
      rw [hS3 S]
      constructor
      · rintro ⟨g1, g2⟩
        have z : p.ms S = k.ms S := g2 (p, k) (List.mem_append_right _ (List.mem_singleton.mpr rfl))
        exact ⟨⟨g1, by rw [← hS1 S g1, ← hS2 S g1]; exact z⟩, fun q hq => g2 q (List.mem_append_left _ hq)⟩
      · rintro ⟨⟨g1, g3⟩, g2⟩
        refine ⟨g1, fun q hq => (List.mem_append.mp hq).elim (g2 q) fun h => ?_⟩
        rw [List.mem_singleton.mp h]
        show p.ms S = k.ms S
        rw [hS1 S g1, hS2 S g1]
        exact g3
    -- after a note
    have after : ∀ (κ3 : Kn) (R3 : Int → Kd) (u3 : Int → Nat) (H5 : Hp), Keep d H4 H5 → Un C H5 o d n κ3 → Unj R3 u3 κ3 → (∀ S, Solves' S κ3 ↔ Solves' S κ2 ∧ p'.ms S = k'.ms S) → (R3 = R2 ∧ κ3 = κ2 ∨ κ3.length = κ2.length + 1) →
        ∃ (v4 v5 : Option V) (κ2 : Kn) (R2 : Int → Kd) (u2 : Int → Nat) (L : List (Kd × Kd)) (st : List Addr), (4 - κ2.length) * 10000000 + psum R2 L < N0 ∧ [some (V.ref o), some va, some vb, some (.ref td), some x', some y'] = [some (.ref o), some va, some vb, some (.ref td), v4, v5] ∧ Keep d H H5 ∧ Un C H5 o d n κ2 ∧ Unj R2 u2 κ2 ∧ H5 td = some (.lst (st.map V.ref)) ∧ PairsAt H5 st L ∧ (∀ q ∈ L, Bd 7 3 q.1 ∧ Bd 7 3 q.2) ∧ Stk R2 0 (90 * (1 + κ2.length)) L ∧
      (∀ S, (Solves' S κ ∧ ka.ms S = kb.ms S) ↔ (Solves' S κ2 ∧ ∀ q ∈ L, q.1.ms S = q.2.ms S)) := fun κ3 R3 u3 H5 k5 un5 uni5 hS5 hor => by
      have t5 : TK H4 H5 := tk_keep k5 fun xs e2 => by rw [hd4] at e2; cases e2
      have l5 := uni5.len
      have mlen : M.length ≤ 90 * (1 + κ2.length) := by omega
      have stk3 : Stk R3 0 (90 * (1 + κ3.length)) M := by
        rcases hor with ⟨e1, e2⟩ | e
        · rw [e1, e2]; exact stM
        · exact stk_any (fun q hq => (uni5.bdK (hgM q hq).1).dep) (by omega)
      have pb := psum_le (fun q hq => (uni5.bdK (hgM q hq).1).size : ∀ q ∈ M, (q.1.ms R3).size ≤ 16807)
      have pm : M.length * 16807 ≤ 450 * 16807 := Nat.mul_le_mul_right _ (by omega)
      refine ⟨_, _, κ3, R3, u3, M, st', ?_, rfl, kp4.trans k5, un5, uni5, k5 _ _ ntd htd4, hM4.keep t5, hgM, stk3, fun S => by rw [hS4 S, hS5 S]⟩
      rw [hN0, eps]
      rcases hor with ⟨e1, e2⟩ | e
      · rw [e1, e2]; omega
      · rw [e]; omega
    have stop : (∀ S, Solves' S κ2 → p'.ms S ≠ k'.ms S) → ∀ H5, Keep d H4 H5 → E (.ref CE) none H5 := fun no H5 k5 => qE (fun S g1 g2 => by
      obtain ⟨⟨z1, z2⟩, _⟩ := (hS4 S).mp ⟨g1, g2⟩
      exact no S z1 z2) H5 (kp4.trans k5)
    cases hpm : p'.isM with
    | true =>
      cases p' with
      | mt i =>
        obtain ⟨a1, rfl, ha1⟩ := id hx'
        refine ⟨_, rfl, a1, _, 0, .str "meta", rfl, rfl, SqT.of ha1, at0 _ _, rfl, _, rfl, ?_⟩
        show if decide (V.str "meta" = V.str "meta") = true then _ else _
        rw [wtt]
        refine iteT ?_
        exact ⟨_, rfl, o, dx, _, rfl, ho4, fldU_no _ _ mno.2.1 mno.2.2, _, rfl, a1, _, 1, .int i, rfl, rfl, SqT.of ha1, at1 _ _ _, _, rfl, o, d, n, i, κ2, y', k', R2, u2, rfl, hUn4, hU3, hy', gp'.ins i rfl, gk', hop1 i rfl, hop2, fun κ3 R3 u3 H5 k5 un5 uni5 hS5 hor => after κ3 R3 u3 H5 k5 un5 uni5 hS5 hor, fun no H5 k5 => stop no H5 k5⟩
      | nm s => cases hpm
      | fn a b => cases hpm
      | cn s l => cases hpm
    | false =>
      obtain ⟨a1, r1, rfl, ha1⟩ := id hx'.tup
      refine ⟨_, rfl, a1, _, 0, .str p'.word, rfl, rfl, SqT.of ha1, at0 _ _, rfl, _, rfl, ?_⟩
      show if decide (V.str p'.word = V.str "meta") = true then _ else _
      rw [wne (p'.isM_word hpm)]
      refine iteF ?_
      cases hkm : k'.isM with
      | true =>
        cases k' with
        | mt i =>
          obtain ⟨a2, rfl, ha2⟩ := id hy'
          refine ⟨_, rfl, a2, _, 0, .str "meta", rfl, rfl, SqT.of ha2, at0 _ _, rfl, _, rfl, ?_⟩
          show if decide (V.str "meta" = V.str "meta") = true then _ else _
          rw [wtt]
          refine iteT ?_
          exact ⟨_, rfl, o, dx, _, rfl, ho4, fldU_no _ _ mno.2.1 mno.2.2, _, rfl, a2, _, 1, .int i, rfl, rfl, SqT.of ha2, at1 _ _ _, _, rfl, o, d, n, i, κ2, .ref a1, p', R2, u2, rfl, hUn4, hU3, hx', gk'.ins i rfl, gp', hop2 i rfl, hop1, fun κ3 R3 u3 H5 k5 un5 uni5 hS5 hor => after κ3 R3 u3 H5 k5 un5 uni5 (fun S => (hS5 S).trans (and_congr_right fun _ => ⟨Eq.symm, Eq.symm⟩)) hor, fun no H5 k5 => stop (fun S g e => no S g e.symm) H5 k5⟩
        | nm s => cases hkm
        | fn a b => cases hkm
        | cn s l => cases hkm
      | false =>
        obtain ⟨a2, r2, rfl, ha2⟩ := id hy'.tup
        refine ⟨_, rfl, a2, _, 0, .str k'.word, rfl, rfl, SqT.of ha2, at0 _ _, rfl, _, rfl, ?_⟩
        show if decide (V.str k'.word = V.str "meta") = true then _ else _
        rw [wne (k'.isM_word hkm)]
        refine iteF ?_
        refine ⟨_, rfl, _, rfl, .ref a1, .ref a2, p', k', rfl, hx', hy', fun H5 s5 => ⟨_, rfl, ?_⟩⟩
        cases al : p'.alike k' with
        | false =>
          refine iteF ?_
          exact stop (fun S _ e => by rw [alike_no' S p' k' hpm hkm e] at al; cases al) H5 (Keep.same s5)
        | true =>
        refine iteT ?_
        have t5 : TK H4 H5 := tk_same s5
        have htd5 := s5 _ _ htd4
        refine ⟨_, rfl, .inl ⟨rfl, _, SqL.of htd5⟩, _, rfl, .ref a1, p', rfl, hx'.keep t5, fun b1 xs1 H6 s6 hb1 ats1 => ?_⟩
        have t6 : TK H5 H6 := tk_same s6
        refine ⟨_, rfl, .ref a2, k', rfl, hy'.keep (t5.trans t6), fun b2 xs2 H7 s7 hb2 ats2 => ?_⟩
        have t7 : TK H6 H7 := tk_same s7
        have elen := (alike_yes' R2 p' k' hpm al).1
        have l1 := ats1.len
        have l2 := ats2.len
        have exl : xs1.length = xs2.length := by omega
        refine ⟨b1, b2, xs1, xs2, rfl, SqT.of (s7 _ _ hb1), SqT.of hb2, exl, fun H8 lp bs s8 hlp hbs hl8 hlen hpairs => ?_⟩
        have t8 : TK H7 H8 := tk_same s8
        have s48 : Same H4 H8 := sameT s5 (sameT s6 (sameT s7 s8))
        have hz := PairsAt.zip (H := H8) (ats1.keep (t7.trans t8)) (ats2.keep t8) hlen exl hpairs
        have hM8 := hM4.keep (tk_same s48)
        have htd8 := s48 _ _ htd4
        have m1 := hM8.len
        have m3 := psum_zip R2 p'.parts k'.parts
        have m4 := ms_parts R2 p' hpm
        have m5 := Kd.size_parts p'
        have m6 := Kd.sizes_len p'.parts
        have m7 := gp'.size
        have m8 : (p'.parts.zip k'.parts).length ≤ 6 := by
          rw [List.length_zip]
          have := Nat.min_le_left p'.parts.length k'.parts.length
          omega
        refine ⟨td, lp, st'.map V.ref, bs.map V.ref, rfl, rfl, htd8, hl8, ?_, ?_⟩
        · rw [List.length_map, List.length_map]
          have m9 := hz.len
          exact Nat.le_of_lt (szl (by omega))
        · have t9 : TK H8 (upd H8 td (.lst (st'.map V.ref ++ bs.map V.ref))) := tk_list htd8
          refine ⟨_, _, κ2, R2, u2, M ++ p'.parts.zip k'.parts, st' ++ bs, ?_, rfl, ?_, ?_, hU3, by rw [upd_same, List.map_append], (hM8.keep t9).app (hz.keep t9), fun q' hq' => ?_, ?_, fun S => ?_⟩
          · rw [hN0, psum_app, eps]
            rw [ep] at m4
            omega
          · intro b0 u nb e
            have z : b0 ≠ td := fun q => by rw [q, htd0] at e; cases e
            rw [upd_ne z]
            exact s48 _ _ (kp4 b0 u nb e)
          · exact ⟨dx, kvs, by rw [upd_ne nto.symm]; exact s48 _ _ ho4, by rw [upd_ne ntd.symm]; exact s48 _ _ hd4, (hK4.keep (tk_same s48)).keep t9⟩
          · rcases List.mem_append.mp hq' with h | h
            · exact hgM q' h
            · obtain ⟨z1, z2⟩ := List.of_mem_zip h
              exact ⟨bd_part z1 gp', bd_part z2 gk'⟩
          · refine stk_app.mpr ⟨stM, stk_all (N := (p'.ms R2).dep - 1) (fun q' hq' => ?_) ?_⟩
            · obtain ⟨z1, z2⟩ := List.of_mem_zip hq'
              have := part_dep R2 hpm z1
              omega
            · have : 1 ≤ (p'.ms R2).dep ∨ (p'.parts.zip k'.parts).length = 0 := by
                cases e : p'.parts with
                | nil => exact .inr rfl
                | cons c l =>
                  have := part_dep R2 hpm (c := c) (by rw [e]; exact List.mem_cons_self ..)
                  exact .inl (by omega)
              rw [ep] at *
              omega
          · rw [hS4 S]
            constructor
            · rintro ⟨⟨g1, g3⟩, g2⟩
              exact ⟨g1, fun q' hq' => (List.mem_append.mp hq').elim (g2 q') fun h => (alike_yes' S p' k' hpm al).2.mpr g3 q' h⟩
            · rintro ⟨g1, g2⟩
              exact ⟨⟨g1, (alike_yes' S p' k' hpm al).2.mp fun q2 h2 => g2 q2 (List.mem_append_right _ h2)⟩, fun q' hq' => g2 q' (List.mem_append_left _ hq')⟩
end
end Toy

set_option Elab.async false
set_option linter.all false
set_option maxRecDepth 100000
set_option maxHeartbeats 4000000
/-! Part W: the law's call of unify: what it answers. -/
namespace Toy
open PySem PySem.Spec L2
open PyProof.Rows (envOfC)
def rIsN (K : PySem.W.Frag) (a : Addr) (cls : Value) (d : Option Addr) : List V → Hp → VK → Prop := fun xs H Q => ∃ (D : Addr) (c : V) (cv : Value) (b : Bool), xs = [.ref a, c] ∧ cls = .ref D ∧ d = none ∧ ExcC K D ∧ (∀ u, RelV c u → u = cv) ∧ PySem.W.kitOne K (.ref D) cv = some b ∧ Q (.bl b) H
theorem call_isN {X : Cx} {a : Addr} {oe : Obj} {cls : Value} {d : Option Addr} {pn : List (Addr × Obj)} (hz : Zc cls d oe) (hf : ∃ vs, oe.data = .fields vs) : CallR (X.suite a ((a, oe) :: pn)) (.builtin "isinstance") (rIsN X.K a cls d) := by
  intro pins s σ H xs us Q I r h
  obtain ⟨D, c, cv, b, rfl, rfl, rfl, C, hcv, e, q⟩ := h
  exact call_isE C hz hf pins s σ H _ us Q I r ⟨c, cv, b, rfl, hcv, e, q⟩
structure HandU (K : PySem.W.Frag) (mg : Str → Option Value) (CE CN : Addr) : Prop where
  gN : mg "NeedError" = some (.ref CN)
  zisinstance : mg "isinstance" = none
  ee : PySem.W.exmOne K (.ref CE) (.ref CE) = some true
  en : PySem.W.kitOne K (.ref CE) (.ref CN) = some true
  x : ExcC K CE
section
variable {P : Program} {w : World} {K : PySem.W.Frag} {mg : Str → Option Value} {base : Heap} {C : Addr}
abbrev sTold : Stmt := topS 20
theorem scTold : FnScope ["unifier", "one", "other", "e"] ["unifier", "one", "other"] (defScope sTold) := ⟨rfl, rfl, rfl, by decide +kernel, rfl, by decide +kernel, by decide +kernel⟩
def spTold (C : Addr) : Sp := fun vs H Q _ => ∃ (o d : Addr) (n : Int) (κ : Kn) (va vb : V) (a b : Kd) (R : Int → Kd) (uu : Int → Nat), vs = [.ref o, va, vb] ∧ Un C H o d n κ ∧ Unj R uu κ ∧ a.At H va ∧ b.At H vb ∧ Bd 7 3 a ∧ Bd 7 3 b ∧
  (∀ (κ' : Kn) (R' : Int → Kd) (uu' : Int → Nat) (H' : Hp), Keep d H H' → Un C H' o d n κ' → Unj R' uu' κ' → (∀ S, Solves' S κ' ↔ Solves' S κ ∧ a.ms S = b.ms S) → Q .non H') ∧
  ((∀ S, Solves' S κ → a.ms S ≠ b.ms S) → ∀ H', Keep d H H' → Q (.bl true) H')
theorem c_told {f CE CN : Addr} {fd : FuncData} (R : ErrU K mg CE) (N : HandU K mg CE CN) (cunify : MetX P w K mg base 4 C "unify" (spUnify C CE)) (F : Fun K "_law_told" "_law_told" sTold f fd) (b : Binds K fd ["unifier", "one", "other"] []) (hm : mg "_law_told" = some (.ref f)) : C8.Cal P w K mg base 5 "_law_told" (spTold C) [] := by
  refine cal_of F hm b scTold (fun vs H Q E h => ?_) (fun cdv A outer s H vs Q E hr h => ?_)
  · obtain ⟨o, d, n, κ, va, vb, a, b, R, uu, rfl, _⟩ := h
    rfl
  have RE := R
  obtain ⟨o, d, n, κ, va, vb, ka, kb, R, uu, rfl, hUn, hU, hka, hkb, hia, hib, q, qE⟩ := h
  have gN : ∃ u, mg "NeedError" = some u ∧ RelV (.ref CN) u := ⟨_, N.gN, rfl⟩
  have mno : ¬ ("unify" : Str) = "made" ∧ ¬ ("unify" : Str) = "known" := by decide +kernel
  refine ⟨_, pss_cons (ps_try_as (i := 3) (Wout := fun _ _ _ _ => False) rfl rfl scTold.nd rfl rfl ⟨rfl, by decide, Or.inl RE.g⟩ takes0
    (fun W pn xe tk _ => (pss_one (ps_expr (pe_mx cunify hr (by decide) tk (pv 0) (pa_cons (pv 1) (pa_cons (pv 2) pa_nil))))))
    (fun a oe cls d pn hz hf => pss_one (ps_ret (pe_callB (r := rIsN K a cls d) (by exact (call_isN hz hf)) rfl N.zisinstance boot_isinstance (pa_cons (pv 3) (pa_cons (C8.pe_gc rfl gN) pa_nil))))))
    (pss_one (ps_ret pe_non)), ?_⟩
  obtain ⟨dx, kvs, ho, hd, hK⟩ := id hUn
  refine ⟨_, rfl, o, dx, _, rfl, ho, fldU_no _ _ mno.1 mno.2, _, rfl, _, rfl, o, d, n, κ, va, vb, ka, kb, R, uu, rfl, hUn, hU, hka, hkb, hia, hib, fun κ' R' u' H' k' un' uni' hS => ?_, fun no H' k' => ?_⟩
  · exact q κ' R' u' H' k' un' uni' hS
  · refine ⟨true, N.ee, fun _ a0 _ => ?_, fun z => Bool.noConfusion z⟩
    exact ⟨_, rfl, CE, _, .ref CN, true, rfl, rfl, rfl, N.x, fun u h => h, N.en, qE no H' k'⟩
end
end Toy

set_option Elab.async false
set_option linter.all false
set_option maxRecDepth 100000
set_option maxHeartbeats 4000000
/-! Part V: own rule: a display of a dict whose keys are tuples. -/
namespace Toy
open PySem PySem.Spec PyProof.Rows L2
/-- pairs whose first parts are tuples that stand in H, of these keys -/
def TupKeys (H : Hp) : List (V × V) → List (List Key × V) → Prop
  | [], kvs => kvs = []
  | p :: ps, kvs => ∃ b k more, p.1 = .ref b ∧ H b = some (.tup (k.map kV)) ∧ kvs = (k, p.2) :: more ∧ TupKeys H ps more
theorem TupKeys.keep {H H' : Hp} (t : TK H H') : ∀ {ps : List (V × V)} {kvs : List (List Key × V)}, TupKeys H ps kvs → TupKeys H' ps kvs
  | [], _, h => h
  | p :: ps, _, ⟨b, k, more, e1, e2, e3, e4⟩ => ⟨b, k, more, e1, t _ _ e2, e3, e4.keep t⟩
theorem TupKeys.len {H : Hp} : ∀ {ps : List (V × V)} {kvs : List (List Key × V)}, TupKeys H ps kvs → kvs.length = ps.length
  | [], _, h => by
    have e : _ = [] := h
    rw [e]
    rfl
  | p :: ps, _, ⟨b, k, more, e1, e2, e3, e4⟩ => by rw [e3, List.length_cons, List.length_cons, e4.len]
def putAllT (acc kvs : List (List Key × V)) : List (List Key × V) := kvs.foldl (fun acc kv => putK acc kv.1 kv.2) acc
section
variable {X : Cx} {pins : List (Addr × Obj)} {σ : L2.St} {A : Around} {E : Value → Shared → Prop}
theorem dispT_set {H : Hp} {s : Shared} {d b : Addr} {acc : List (List Key × V)} {k : List Key} {v : V} {r : Value} {Q : Unit → Shared → Prop} (hu : A.units < cLine) (I : Inv X pins σ H s) (e : H d = some (.dT acc)) (eb : H b = some (.tup (k.map kV))) (rv : RelV v r) (hl : acc.length < sizeLine)
    (h : ∀ s', Inv X pins σ (upd H d (.dT (putK acc k v))) s' → Q () s') : wpAny (model X.prog X.w) A (dictSet d (.ref b) r) Q E s := by
  obtain ⟨z, hd, xs, rel, dd⟩ := dt_of I.hok e
  have hxs : xs.length ≤ sizeLine := (Paired.length rel) ▸ z
  refine wpAny_dictSet_heap (hsz := hxs) (knd := tupleKind (mixKind X.prog X.w)) hu (key_of I.hok eb) dd fun g dd' sb => h _ ?_
  obtain ⟨ob, es, ep, g1, g2, g3, g4, _, g5⟩ := dd'
  have hlen : (putK acc k v).length ≤ sizeLine := Nat.le_trans (length_putK acc k v) hl
  refine d_write I (by rw [e]; exact True.intro) sb ⟨ob, g1⟩ ⟨hlen, hd, _, (rel.put k eb rv).keeps fun c ys ec => ?_, ob, es, ep, g1, g2, g3, g4, g5⟩
  exact (upd_ne (ne_of ec e (fun z => nomatch z))).trans ec
theorem dispT_all {d : Addr} (hu : A.units < cLine) : ∀ (ps : List (V × V)) (vs : List (Value × Value)) (kvs acc : List (List Key × V)) (H : Hp) (s : Shared) (Q : PUnit → Shared → Prop), VV ps vs → TupKeys H ps kvs → Inv X pins σ H s → H d = some (.dT acc) → acc.length + kvs.length ≤ 1000 →
    (∀ s' H', Inv X pins σ H' s' → H' d = some (.dT (putAllT acc kvs)) → (∀ b, b ≠ d → H' b = H b) → Q PUnit.unit s') →
    wpAny (model X.prog X.w) A (forIn vs PUnit.unit fun (x : Value × Value) (_ : PUnit) => (do dictSet d x.1 x.2; pure (ForInStep.yield PUnit.unit) : Sem (ForInStep PUnit))) Q E s
  | [], _, kvs, acc, H, s, Q, rel, hk, I, e, _, hQ => by
    cases rel
    have z : kvs = [] := hk
    subst z
    rw [List.forIn_nil]
    exact wpAny_pure (hQ s H I e fun _ _ => rfl)
  | p :: ps, _, kvs, acc, H, s, Q, rel, hk, I, e, hl, hQ => by
    obtain ⟨b, k, more, e1, e2, e3, e4⟩ := hk
    subst e3
    cases rel with
    | @cons x y xs ys r rr =>
      rw [List.length_cons] at hl
      rw [List.forIn_cons]
      obtain ⟨y1, y2⟩ := y
      have ry : RelV p.1 y1 := r.1
      rw [e1] at ry
      have ey : y1 = Value.ref b := ry
      subst ey
      refine wpAny_bind (wpAny_bind (dispT_set hu I e e2 r.2 (szl (by omega)) fun s' I' => wpAny_pure ?_))
      have hn : ∀ xs, H d ≠ some (.tup xs) := fun xs q => by rw [e] at q; cases q
      have lp := length_putK acc k p.2
      refine dispT_all hu ps _ more (putK acc k p.2) _ s' Q rr (e4.keep (tk_upd hn)) I' upd_same (by omega) fun s2 H2 I2 f1 f2 => hQ s2 H2 I2 f1 fun c hc => ?_
      rw [f2 c hc, upd_ne hc]
end
def tDispT (trs : List (TE × TE)) : TE := fun σ H Q => ∀ p, H p = none → tPairs trs σ (upd H p (.dT [])) fun ps H2 => H2 p = some (.dT []) ∧ ∃ kvs : List (List Key × V), TupKeys H2 ps kvs ∧ kvs.length ≤ 15 ∧ ∀ H3 : Hp, H3 p = some (.dT (putAllT [] kvs)) → (∀ b, b ≠ p → H3 b = H2 b) → Q (.ref p) H3
theorem pe_dispT {X : Cx} {pos : Pos} {keys : List (Option Expr)} {values : List Expr} {trs : List (TE × TE)} (hu : X.A.units + 1 < cLine) (h : PPs X pos keys values trs) (hall : keys.all (·.isSome) = true) (hl : keys.length = values.length) (h0 : keys ≠ [])
    (h15 : keys.length ≤ 15) : PE X (.Dict keys values pos) (tDispT trs) := by
  refine ⟨fun pins s σ H Q I q => ?_⟩
  have hn := I.hok.fresh (Nat.le_refl s.heap.objs.size)
  have I1 := I.laid (a := s.heap.objs.size) (o := .dT []) (h' := s.heap.push { cls := .type "dict", data := .dict #[] }) (t' := s.toks) (fun _ _ q => Heap.get?_push_of_some _ q) (Nat.le_refl _) (dt_empty s.heap I.big)
  have hne : pairTrees keys values X.env pos ≠ [] := fun e => by
    have z := pairTrees_length keys values X.env pos hall hl
    rw [e] at z
    exact h0 (List.length_eq_zero_iff.mp z.symm)
  have hlen := pairTrees_length keys values X.env pos hall hl
  rw [arm_eval_Dict, zip_pairTrees keys values X.env pos hall hl, dictDisplay_pairs _ hne (by omega)]
  refine wpAny_bind (wpAny_standAt (wpAny_bind ?_))
  unfold subDict
  refine wpAny_bind (wpAny_alloc ?_)
  refine wpAny_bind (wpAny_holding ?_)
  rw [if_pos (by omega)]
  refine wpAny_bind (thn (h.run pins _ σ _ _ I1 (q _ hn)) fun ws s2 ⟨ps, H2, I2, rel, e, kvs, tk, lk, q2⟩ => ?_)
  refine wpAny_holding ?_
  refine wpAny_bind (dispT_all (Nat.lt_of_succ_lt hu) ps ws kvs [] H2 s2 _ rel tk I2 e (by show 0 + _ ≤ _; omega) fun s3 H3 I3 f1 f2 => wpAny_pure (wpAny_pure ?_))
  exact wpAny_pure ⟨.ref _, H3, I3, rfl, q2 H3 f1 f2⟩
end Toy

set_option Elab.async false
set_option linter.all false
set_option maxRecDepth 100000
set_option maxHeartbeats 4000000
/-! Part K: the metas of a type; one step of the law's solving. -/
namespace Toy
open PySem L2
open PyProof.Rows (envOfC)
theorem memsI : ∀ {l : List Kd} {m : Int}, Kd.hasMs m l ↔ ∃ c ∈ l, c.hasM m
  | [], m => ⟨fun h => (show False from h).elim, fun ⟨c, hc, _⟩ => by cases hc⟩
  | k :: l, m => by
    show k.hasM m ∨ Kd.hasMs m l ↔ _
    rw [memsI (l := l)]
    constructor
    · rintro (h | ⟨c, hc, h⟩)
      · exact ⟨k, List.mem_cons_self .., h⟩
      · exact ⟨c, List.mem_cons_of_mem _ hc, h⟩
    · rintro ⟨c, hc, h⟩
      rcases List.mem_cons.mp hc with e | e
      · rw [e] at h; exact .inl h
      · exact .inr ⟨c, e, h⟩
theorem take_hasM {l : List Kd} {i : Nat} {c : Kd} (h : l[i]? = some c) (m : Int) : Kd.hasMs m (l.take (i + 1)) ↔ Kd.hasMs m (l.take i) ∨ c.hasM m := by
  rw [memsI, memsI, List.take_add_one, h]
  constructor
  · rintro ⟨c', hc, g⟩
    rcases List.mem_append.mp hc with z | z
    · exact .inl ⟨c', z, g⟩
    · rw [List.mem_singleton.mp z] at g; exact .inr g
  · rintro (⟨c', hc, g⟩ | g)
    · exact ⟨c', List.mem_append_left _ hc, g⟩
    · exact ⟨c, List.mem_append_right _ (List.mem_singleton.mpr rfl), g⟩
theorem take_sizes {l : List Kd} {i : Nat} {c : Kd} (h : l[i]? = some c) : Kd.sizes (l.take (i + 1)) = Kd.sizes (l.take i) + c.size := by
  rw [List.take_add_one, h, Kd.sizes_app]
  show _ + (c.size + 0) = _
  omega
theorem parts_has : ∀ {k : Kd} {m : Int}, k.isM = false → (Kd.hasMs m k.parts ↔ k.hasM m)
  | .nm s, m, _ => Iff.rfl
  | .mt i, m, e => by cases e
  | .fn a b, m, _ => by
    show a.hasM m ∨ b.hasM m ∨ False ↔ a.hasM m ∨ b.hasM m
    rw [or_false]
  | .cn s l, m, _ => Iff.rfl
theorem mts_app (a b : List Int) : (a ++ b).map Kd.mt = a.map Kd.mt ++ b.map Kd.mt := List.map_append
section
variable {P : Program} {w : World} {K : PySem.W.Frag} {mg : Str → Option Value} {base : Heap}
abbrev sMetas : Stmt := topS 17
theorem scMetas : FnScope ["kind", "parts", "found", "part"] ["kind"] (defScope sMetas) := ⟨rfl, rfl, rfl, by decide +kernel, rfl, by decide +kernel, by decide +kernel⟩
def spMetas (n : Nat) : Sp := fun vs H Q _ => ∃ (v : V) (k : Kd), vs = [v] ∧ k.At H v ∧ k.dep < n ∧ k.size ≤ 20000 ∧ ∀ (L : Addr) (xs : List V) (ms : List Int) (H' : Hp), H L = none → Same H H' → H' L = some (.lst xs) → Kd.Ats H' (ms.map .mt) xs → (∀ m, m ∈ ms ↔ k.hasM m) → ms.length ≤ k.size → Q (.ref L) H'
theorem c_metas {f : Addr} {fd : FuncData} (T : TxtT mg) (F : Fun K "_law_metas" "_law_metas" sMetas f fd) (b : Binds K fd ["kind"] []) (hm : mg "_law_metas" = some (.ref f)) : ∀ n : Nat, C8.Cal P w K mg base (n + 2) "_law_metas" (spMetas n) []
  | 0 => cal_none F hm b fun vs H Q E ⟨v, k, _, _, h, _⟩ => Nat.not_lt_zero _ h
  | n + 1 => by
    have c_law_metas := c_metas T F b hm n
    refine cal_of F hm b scMetas (fun vs H Q E h => ?_) (fun cdv A outer s H vs Q E hr h => ?_)
    · obtain ⟨v, k, rfl, _⟩ := h
      rfl
    obtain ⟨v, k, rfl, hk, hdn, hsz, q⟩ := h
    refine ⟨_, (pss_cons (ps_if (pt_cmpR op_eq (pe_ix ix_tup (pv 0) pe_int (fun _ _ => rfl)) pe_str (nomark _))
      (pss_one (ps_ret (pe_lst (pa_cons (pv 0) pa_nil))))
      pss_nil)
    (pss_cons (ps_set (i := 1) scMetas.nd rfl (Or.inl rfl) (pe_lst pa_nil))
    (C8.pss_cut (ps_if (pt_cmpR op_eq (pe_ix ix_tup (pv 0) pe_int (fun _ _ => rfl)) pe_str (nomark _))
      (pss_one (ps_set (i := 1) scMetas.nd rfl (Or.inl rfl) (pe_lst (pa_cons (pe_ix ix_tup (pv 0) pe_int (fun _ _ => rfl)) (pa_cons (pe_ix ix_tup (pv 0) pe_int (fun _ _ => rfl)) pa_nil)))))
      pss_nil)
    (C8.pss_cut (ps_if (pt_cmpR op_eq (pe_ix ix_tup (pv 0) pe_int (fun _ _ => rfl)) pe_str (nomark _))
      (pss_one (ps_set (i := 1) scMetas.nd rfl (Or.inl rfl) (pe_callTy call_list_of rfl T.zlist boot_list (pa_cons (pe_ix ix_tup (pv 0) pe_int (fun _ _ => rfl)) pa_nil))))
      pss_nil)
    (pss_cons (ps_set (i := 2) scMetas.nd rfl (Or.inl rfl) (pe_lst pa_nil))
    (pss_cons (ps_for PassesOwn.never rfl (pi_list (pv 1)) (pg_name (i := 3) scMetas.nd rfl (Or.inl rfl))
      (pss_one (ps_set (i := 2) scMetas.nd rfl (Or.inl rfl) (pe_op op_cat (pv 2) (C8.pe_c c_law_metas hr (by omega) rfl (pa_cons (pv 3) pa_nil))))))
    (pss_one (ps_ret (pv 2))))))))), ?_⟩
    cases hmk : k.isM with
    | true =>
      cases k with
      | mt i =>
        obtain ⟨a, rfl, ha⟩ := id hk
        refine ⟨_, rfl, a, _, 0, .str "meta", rfl, rfl, SqT.of ha, at0 _ _, rfl, _, rfl, ?_⟩
        show if decide (V.str "meta" = V.str "meta") = true then _ else _
        rw [wtt]
        refine iteT ?_
        refine ⟨_, rfl, by show 1 ≤ sizeLine; decide, fun L hL => ?_⟩
        exact q L _ [i] _ hL (same_new hL _) upd_same ⟨.ref a, [], rfl, ⟨a, rfl, tk_new hL _ _ ha⟩, rfl⟩ (fun m => by rw [List.mem_singleton]; exact eq_comm) (Nat.le_refl _)
      | nm s => cases hmk
      | fn a b => cases hmk
      | cn s l => cases hmk
    | false =>
      obtain ⟨a, r, rfl, ha⟩ := id hk.tup
      refine ⟨_, rfl, a, _, 0, .str k.word, rfl, rfl, SqT.of ha, at0 _ _, rfl, _, rfl, ?_⟩
      show if decide (V.str k.word = V.str "meta") = true then _ else _
      rw [wne (k.isM_word hmk)]
      refine iteF ?_
      refine ⟨by show 0 ≤ sizeLine; decide, fun L0 hL0 => ?_⟩
      have s0 := same_new hL0 (.lst [])
      have e0 : upd H L0 (.lst []) L0 = some (.lst []) := upd_same
      generalize upd H L0 (.lst []) = H0 at s0 e0 ⊢
      refine ⟨fun σ' H1 => ∃ (L1 : Addr) (ys : List V), σ' = [some (.ref a), some (.ref L1), none, none] ∧ Same H H1 ∧ H1 L1 = some (.lst ys) ∧ (k.word = "con" ∨ Kd.Ats H1 k.parts ys), ?_, ?_⟩
      · cases k with
        | mt i => cases hmk
        | nm s =>
          refine ⟨_, rfl, a, _, 0, .str "name", rfl, rfl, SqT.of (s0 _ _ ha), at0 _ _, rfl, _, rfl, ?_⟩
          show if decide (V.str "name" = V.str "fun") = true then _ else _
          rw [wz _ _ sne3]
          refine iteF ?_
          exact ⟨L0, [], rfl, s0, e0, .inr rfl⟩
        | fn k1 k2 =>
          obtain ⟨a', x, y, e, ha', hx, hy⟩ := id hk
          cases e
          refine ⟨_, rfl, a, _, 0, .str "fun", rfl, rfl, SqT.of (s0 _ _ ha'), at0 _ _, rfl, _, rfl, ?_⟩
          show if decide (V.str "fun" = V.str "fun") = true then _ else _
          rw [wtt]
          refine iteT ?_
          refine ⟨_, rfl, a, _, 1, x, rfl, rfl, SqT.of (s0 _ _ ha'), at1 _ _ _, _, rfl, a, _, 2, y, rfl, rfl, SqT.of (s0 _ _ ha'), at2 _ _ _ _, by show 2 ≤ sizeLine; decide, fun L1 hL1 => ?_⟩
          have s1 := sameT s0 (same_new hL1 (.lst [x, y]))
          exact ⟨L1, _, rfl, s1, upd_same, .inr ⟨x, [y], rfl, hx.keep (tk_same s1), y, [], rfl, hy.keep (tk_same s1), rfl⟩⟩
        | cn s l =>
          refine ⟨_, rfl, a, _, 0, .str "con", rfl, rfl, SqT.of (s0 _ _ ha), at0 _ _, rfl, _, rfl, ?_⟩
          show if decide (V.str "con" = V.str "fun") = true then _ else _
          rw [wz _ _ sne12]
          refine iteF ?_
          exact ⟨L0, [], rfl, s0, e0, .inl rfl⟩
      rintro σ' H1 ⟨L1, ys1, rfl, s1, e1, hor⟩
      refine ⟨fun σ' H2 => ∃ (L2 : Addr) (ys : List V), σ' = [some (.ref a), some (.ref L2), none, none] ∧ Same H H2 ∧ H2 L2 = some (.lst ys) ∧ Kd.Ats H2 k.parts ys, ?_, ?_⟩
      · cases k with
        | mt i => cases hmk
        | nm s =>
          refine ⟨_, rfl, a, _, 0, .str "name", rfl, rfl, SqT.of (s1 _ _ ha), at0 _ _, rfl, _, rfl, ?_⟩
          show if decide (V.str "name" = V.str "con") = true then _ else _
          rw [wz _ _ sne5]
          refine iteF ?_
          exact ⟨L1, ys1, rfl, s1, e1, hor.resolve_left (by show ¬ ("name" : Str) = "con"; decide +kernel)⟩
        | fn k1 k2 =>
          refine ⟨_, rfl, a, _, 0, .str "fun", rfl, rfl, SqT.of (s1 _ _ ha), at0 _ _, rfl, _, rfl, ?_⟩
          show if decide (V.str "fun" = V.str "con") = true then _ else _
          rw [wz _ _ sne11]
          refine iteF ?_
          exact ⟨L1, ys1, rfl, s1, e1, hor.resolve_left (by show ¬ ("fun" : Str) = "con"; decide +kernel)⟩
        | cn s l =>
          obtain ⟨a', c, xs, e, ha', hc, hats⟩ := id hk
          cases e
          refine ⟨_, rfl, a, _, 0, .str "con", rfl, rfl, SqT.of (s1 _ _ ha'), at0 _ _, rfl, _, rfl, ?_⟩
          show if decide (V.str "con" = V.str "con") = true then _ else _
          rw [wtt]
          refine iteT ?_
          refine ⟨_, rfl, a, _, 2, .ref c, rfl, rfl, SqT.of (s1 _ _ ha'), at2 _ _ _ _, c, xs, rfl, .inr (SqT.of (s1 _ _ hc)), fun L2 hL2 => ?_⟩
          have s2 := sameT s1 (same_new hL2 (.lst xs))
          exact ⟨L2, xs, rfl, s2, upd_same, hats.keep (tk_same s2)⟩
      rintro σ' H2 ⟨L2, ys, rfl, s2, e2, hats⟩
      refine ⟨by show 0 ≤ sizeLine; decide, fun F hF => ?_⟩
      have s3 := same_new hF (.lst [])
      have e3 : upd H2 F (.lst []) F = some (.lst []) := upd_same
      have s23 := sameT s2 s3
      have hF0 := s2.free hF
      have e23 := s3 _ _ e2
      have hats3 := hats.keep (tk_same s3)
      generalize upd H2 F (.lst []) = H3 at s3 e3 s23 e23 hats3 ⊢
      have hl := hats3.len
      have hp1 := Kd.size_parts k
      have big : 100000 < sizeLine := by rw [sizeLine_eq]; decide
      refine ⟨_, rfl, L2, rfl, ⟨_, SqL.of e23⟩, for_list (K := K) (a := L2) (xs := ys)
        (fun i σ G => ∃ (v3 : Option V) (L : Addr) (zs : List V) (ms : List Int), σ = [some (.ref a), some (.ref L2), some (.ref L), v3] ∧ Same H3 G ∧ H L = none ∧ G L = some (.lst zs) ∧ Kd.Ats G (ms.map .mt) zs ∧ (∀ m, m ∈ ms ↔ Kd.hasMs m (k.parts.take i)) ∧ ms.length ≤ Kd.sizes (k.parts.take i))
        ⟨_, F, [], [], rfl, fun _ _ e => e, hF0, e3, rfl, fun m => (by rw [List.take_zero]; exact ⟨fun h => absurd h List.not_mem_nil, fun h => (show False from h).elim⟩), Nat.zero_le _⟩ (fun i σ G _ ⟨_, _, _, _, _, s, _⟩ => SqL.of (s _ _ e23)) ?_ ?_⟩
      · rintro i x σ G hx ⟨v3, L, zs, ms, rfl, sG, hL, eL, hz, hms, hlen⟩
        obtain ⟨c, hc, hat⟩ := Kd.Ats.get i hats3 hx
        have cmem := List.mem_of_getElem? hc
        have d1 := dep_part cmem
        have z1 := size_part cmem
        refine ⟨_, rfl, _, rfl, x, c, rfl, hat.keep (tk_same sG), by omega, by omega, fun L' xs' ms' G' hL' sG' eL' hats' hms' hlen' => ?_⟩
        have hsz2 : Kd.sizes (k.parts.take (i + 1)) ≤ 20000 := by
          have : Kd.sizes (k.parts.take (i + 1)) + Kd.sizes (k.parts.drop (i + 1)) = Kd.sizes k.parts := by rw [← Kd.sizes_app, List.take_append_drop]
          omega
        rw [take_sizes hc] at hsz2
        have l1 := hz.len
        have l2 := hats'.len
        rw [List.length_map] at l1 l2
        refine ⟨L, L', zs, xs', rfl, rfl, sG' _ _ eL, eL', by omega, fun p hp => ?_⟩
        have t5 : TK G' (upd G' p (.lst (zs ++ xs'))) := tk_new hp
        have s6 := sameT sG (sameT sG' (same_new hp (.lst (zs ++ xs'))))
        refine ⟨_, p, _, ms ++ ms', rfl, s6, (sameT s23 (sameT sG sG')).free hp, upd_same, by rw [mts_app]; exact Kd.Ats.app ((hz.keep (tk_same sG')).keep t5) (hats'.keep t5), fun m => ?_, ?_⟩
        · rw [List.mem_append, hms m, hms' m, take_hasM hc]
        · rw [List.length_append, take_sizes hc]; omega
      rintro σ G ⟨v3, L, zs, ms, rfl, sG, hL, eL, hz, hms, hlen⟩
      rw [hl, List.take_length] at hms hlen
      exact ⟨_, rfl, q L zs ms G hL (sameT s23 sG) eL hz (fun m => (hms m).trans (parts_has hmk)) (by omega)⟩
end
end Toy

set_option Elab.async false
set_option linter.all false
set_option maxRecDepth 100000
set_option maxHeartbeats 4000000
/-! Part L: one step of the law's solving. -/
namespace Toy
open PySem L2
open PyProof.Rows (envOfC)
structure TxtV (mg : Str → Option Value) : Prop where
  zlen : mg "len" = none
  zrange : mg "range" = none
theorem atsZip {H : Hp} : ∀ {i : Nat} {l m : List Kd} {xs ys : List V} {a b : Kd}, l[i]? = some a → m[i]? = some b → (l.zip m).take (i + 1) = (l.zip m).take i ++ [(a, b)]
  | i, l, m, xs, ys, a, b, h1, h2 => by
    have : (l.zip m)[i]? = some (a, b) := List.getElem?_zip_eq_some.mpr ⟨h1, h2⟩
    rw [List.take_add_one, this]
    rfl
section
variable {P : Program} {w : World} {K : PySem.W.Frag} {mg : Str → Option Value} {base : Heap}
abbrev sStep : Stmt := topS 18
theorem scStep : FnScope ["pairs", "one", "other", "k"] ["pairs", "one", "other"] (defScope sStep) := ⟨rfl, rfl, rfl, by decide +kernel, rfl, by decide +kernel, by decide +kernel⟩
def spStep : Sp := fun vs H Q _ => ∃ (pl : Addr) (va vb : V) (st : List Addr) (M : List (Kd × Kd)) (a b : Kd), vs = [.ref pl, va, vb] ∧ H pl = some (.lst (st.map V.ref)) ∧ PairsAt H st M ∧ st.length ≤ 1000 ∧ a.At H va ∧ b.At H vb ∧ a.isM = false ∧ b.isM = false ∧ a ≠ b ∧ a.size ≤ 20000 ∧
  (a.alike b = true → ∀ (L : Addr) (bs : List Addr) (H' : Hp), Same H H' → H L = none → H' L = some (.lst ((bs ++ st).map V.ref)) → PairsAt H' (bs ++ st) (a.parts.zip b.parts ++ M) → Q (.ref L) H') ∧ (a.alike b = false → Q .non H)
theorem c_step {f : Addr} {fd : FuncData} (T : TxtV mg) (F : Fun K "_law_step" "_law_step" sStep f fd) (b : Binds K fd ["pairs", "one", "other"] []) (hm : mg "_law_step" = some (.ref f)) : C8.Cal P w K mg base 1 "_law_step" spStep [] := by
  refine cal_of F hm b scStep (fun vs H Q E h => ?_) (fun cdv A outer s H vs Q E hr h => ?_)
  · obtain ⟨pl, va, vb, st, M, a, b, rfl, _⟩ := h
    rfl
  obtain ⟨pl, va, vb, st, M, ka, kb, rfl, hpl, hM, hlen, hka, hkb, ma, mb, hne, hsz, q1, q0⟩ := h
  refine ⟨_, (pss_cons (ps_if (PW.pt (pw_and (pt_cmpR op_eq (pe_ix ix_tup (pv 1) pe_int (fun _ _ => rfl)) pe_str (nomark _)) (pw_and1 (pt_cmpR op_eq (pe_ix ix_tup (pv 2) pe_int (fun _ _ => rfl)) pe_str (nomark _)))))
      (pss_one (ps_ret (pe_op op_cat (pe_lst (pa_cons (pe_tup (pa_cons (pe_ix ix_tup (pv 1) pe_int (fun _ _ => rfl)) (pa_cons (pe_ix ix_tup (pv 2) pe_int (fun _ _ => rfl)) pa_nil))) (pa_cons (pe_tup (pa_cons (pe_ix ix_tup (pv 1) pe_int (fun _ _ => rfl)) (pa_cons (pe_ix ix_tup (pv 2) pe_int (fun _ _ => rfl)) pa_nil))) pa_nil))) (pv 0))))
      pss_nil)
    (pss_cons (ps_if (PW.pt (pw_and (pt_cmpR op_eq (pe_ix ix_tup (pv 1) pe_int (fun _ _ => rfl)) pe_str (nomark _)) (pw_and (pt_cmpR op_eq (pe_ix ix_tup (pv 2) pe_int (fun _ _ => rfl)) pe_str (nomark _)) (pw_and (pt_cmpR op_eq (pe_ix ix_tup (pv 1) pe_int (fun _ _ => rfl)) (pe_ix ix_tup (pv 2) pe_int (fun _ _ => rfl)) (nomark _)) (pw_and1 (pt_cmpR op_eq (pe_callB call_len_seq rfl T.zlen PySem.boot_len (pa_cons (pe_ix ix_tup (pv 1) pe_int (fun _ _ => rfl)) pa_nil)) (pe_callB call_len_seq rfl T.zlen PySem.boot_len (pa_cons (pe_ix ix_tup (pv 2) pe_int (fun _ _ => rfl)) pa_nil)) (nomark _)))))))
      (pss_one (ps_ret (pe_op op_cat (pe_lc (own := [("k", 3)]) (g := gName 3) (tt := tYes) (te := (tTup (tCons (tOp (rIxT K) (tOp (rIxT K) (tVar 1) (tC (.int 2))) (tVar 3)) (tCons (tOp (rIxT K) (tOp (rIxT K) (tVar 2) (tC (.int 2))) (tVar 3)) tNil)))) rfl scStep.nd (pi_range1 rfl T.zrange (pa_cons (pe_callB call_len_seq rfl T.zlen PySem.boot_len (pa_cons (pe_ix ix_tup (pv 1) pe_int (fun _ _ => rfl)) pa_nil)) pa_nil)) (blkOk_by (own := [("k", 3)]) (N := ["pairs", "one", "other", "k"]) (sc := defScope sStep) (by decide +kernel)) (fun _ _ _ _ _ => (pg_name (i := 3) scStep.nd rfl (Or.inl rfl))) (fun _ _ _ _ _ => pts_nil) (fun _ _ _ _ _ => (pe_tup (pa_cons (pe_ix ix_tup (pe_ix ix_tup (pv 1) pe_int (fun _ _ => rfl)) (pv 3) (fun _ _ => rfl)) (pa_cons (pe_ix ix_tup (pe_ix ix_tup (pv 2) pe_int (fun _ _ => rfl)) (pv 3) (fun _ _ => rfl)) pa_nil))))) (pv 0))))
      pss_nil)
    (pss_one (ps_ret pe_non)))), ?_⟩
  have big : 100000 < sizeLine := by rw [sizeLine_eq]; decide
  cases ka with
  | mt i => cases ma
  | nm s =>
    obtain ⟨a, rfl, ha⟩ := id hka
    refine ⟨_, rfl, a, _, 0, .str "name", rfl, rfl, SqT.of ha, at0 _ _, rfl, _, rfl, ?_⟩
    show if decide (V.str "name" = V.str "fun") = true then _ else _
    rw [wz _ _ sne3]
    refine iteF (iteF ?_)
    refine ⟨_, rfl, a, _, 0, .str "name", rfl, rfl, SqT.of ha, at0 _ _, rfl, _, rfl, ?_⟩
    show if decide (V.str "name" = V.str "con") = true then _ else _
    rw [wz _ _ sne5]
    refine iteF (iteF ?_)
    refine q0 ?_
    cases kb with
    | nm t =>
      show (s == t) = false
      rw [beq_eq_false_iff_ne]
      exact fun e => hne (by rw [e])
    | mt i => rfl
    | fn x y => rfl
    | cn t l => rfl
  | fn a1 a2 =>
    obtain ⟨a, x1, x2, rfl, ha, hx1, hx2⟩ := id hka
    refine ⟨_, rfl, a, _, 0, .str "fun", rfl, rfl, SqT.of ha, at0 _ _, rfl, _, rfl, ?_⟩
    show if decide (V.str "fun" = V.str "fun") = true then _ else _
    rw [wtt]
    refine iteT ?_
    have other : ∀ (c : Addr) (r : List V), vb = .ref c → H c = some (.tup (.str kb.word :: r)) → kb.word ≠ "fun" → True := fun _ _ _ _ _ => trivial
    cases hb : decide (kb.word = "fun") with
    | false =>
      have hb := of_decide_eq_false hb
      obtain ⟨c, r, rfl, hc⟩ := id hkb.tup
      refine ⟨_, rfl, c, _, 0, .str kb.word, rfl, rfl, SqT.of hc, at0 _ _, rfl, _, rfl, ?_⟩
      show if decide (V.str kb.word = V.str "fun") = true then _ else _
      rw [wne hb]
      refine iteF ?_
      refine ⟨_, rfl, a, _, 0, .str "fun", rfl, rfl, SqT.of ha, at0 _ _, rfl, _, rfl, ?_⟩
      show if decide (V.str "fun" = V.str "con") = true then _ else _
      rw [wz _ _ sne11]
      refine iteF (iteF ?_)
      refine q0 ?_
      cases kb with
      | fn x y => exact (hb rfl).elim
      | mt i => rfl
      | nm t => rfl
      | cn t l => rfl
    | true =>
      cases kb with
      | mt i => cases mb
      | nm t => exact absurd (of_decide_eq_true hb) (by show ¬ ("name" : Str) = "fun"; decide +kernel)
      | cn t l => exact absurd (of_decide_eq_true hb) (by show ¬ ("con" : Str) = "fun"; decide +kernel)
      | fn b1 b2 =>
        obtain ⟨c, y1, y2, rfl, hc, hy1, hy2⟩ := id hkb
        refine ⟨_, rfl, c, _, 0, .str "fun", rfl, rfl, SqT.of hc, at0 _ _, rfl, _, rfl, ?_⟩
        show if decide (V.str "fun" = V.str "fun") = true then _ else _
        rw [wtt]
        refine iteT ?_
        refine ⟨_, rfl, a, _, 1, x1, rfl, rfl, SqT.of ha, at1 _ _ _, _, rfl, c, _, 1, y1, rfl, rfl, SqT.of hc, at1 _ _ _, by show 2 ≤ sizeLine; decide, fun t1 ht1 => ?_⟩
        have s1 := same_new ht1 (.tup [x1, y1])
        have e1 : upd H t1 (.tup [x1, y1]) t1 = some (.tup [x1, y1]) := upd_same
        generalize upd H t1 (.tup [x1, y1]) = H1 at s1 e1 ⊢
        refine ⟨_, rfl, a, _, 2, x2, rfl, rfl, SqT.of (s1 _ _ ha), at2 _ _ _ _, _, rfl, c, _, 2, y2, rfl, rfl, SqT.of (s1 _ _ hc), at2 _ _ _ _, by show 2 ≤ sizeLine; decide, fun t2 ht2 => ?_⟩
        have s2 := same_new ht2 (.tup [x2, y2])
        have e2 : upd H1 t2 (.tup [x2, y2]) t2 = some (.tup [x2, y2]) := upd_same
        generalize upd H1 t2 (.tup [x2, y2]) = H2 at s2 e2 ⊢
        have s12 := sameT s1 s2
        refine ⟨by show 2 ≤ sizeLine; decide, fun l3 hl3 => ?_⟩
        have s3 := same_new hl3 (.lst [.ref t1, .ref t2])
        have e3 : upd H2 l3 (.lst [.ref t1, .ref t2]) l3 = some (.lst [.ref t1, .ref t2]) := upd_same
        generalize upd H2 l3 (.lst [.ref t1, .ref t2]) = H3 at s3 e3 ⊢
        have s13 := sameT s12 s3
        refine ⟨_, rfl, l3, pl, _, _, rfl, rfl, e3, s13 _ _ hpl, by rw [List.length_map]; show 2 + _ ≤ _; omega, fun p hp => ?_⟩
        have s4 := same_new hp (.lst ([V.ref t1, V.ref t2] ++ st.map V.ref))
        have s14 := sameT s13 s4
        have t14 := tk_same s14
        refine q1 rfl p [t1, t2] _ s14 (s13.free hp) upd_same ?_
        exact ⟨a1, b1, x1, y1, _, rfl, s4 _ _ (s3 _ _ (s2 _ _ e1)), hx1.keep t14, hy1.keep t14, a2, b2, x2, y2, M, rfl, s4 _ _ (s3 _ _ e2), hx2.keep t14, hy2.keep t14, hM.keep t14⟩
  | cn s l =>
    obtain ⟨a, a2, xs, rfl, ha, ha2, hats⟩ := id hka
    refine ⟨_, rfl, a, _, 0, .str "con", rfl, rfl, SqT.of ha, at0 _ _, rfl, _, rfl, ?_⟩
    show if decide (V.str "con" = V.str "fun") = true then _ else _
    rw [wz _ _ sne12]
    refine iteF (iteF ?_)
    refine ⟨_, rfl, a, _, 0, .str "con", rfl, rfl, SqT.of ha, at0 _ _, rfl, _, rfl, ?_⟩
    show if decide (V.str "con" = V.str "con") = true then _ else _
    rw [wtt]
    refine iteT ?_
    cases hb : decide (kb.word = "con") with
    | false =>
      have hb := of_decide_eq_false hb
      obtain ⟨c, r, rfl, hc⟩ := id hkb.tup
      refine ⟨_, rfl, c, _, 0, .str kb.word, rfl, rfl, SqT.of hc, at0 _ _, rfl, _, rfl, ?_⟩
      show if decide (V.str kb.word = V.str "con") = true then _ else _
      rw [wne hb]
      refine iteF (iteF ?_)
      refine q0 ?_
      cases kb with
      | cn x y => exact (hb rfl).elim
      | mt i => rfl
      | nm t => rfl
      | fn t l => rfl
    | true =>
      cases kb with
      | mt i => cases mb
      | nm t => exact absurd (of_decide_eq_true hb) (by show ¬ ("name" : Str) = "con"; decide +kernel)
      | fn b1 b2 => exact absurd (of_decide_eq_true hb) (by show ¬ ("fun" : Str) = "con"; decide +kernel)
      | cn t m =>
        obtain ⟨c, c2, zs, rfl, hc, hc2, hats2⟩ := id hkb
        have l1 := hats.len
        have l2 := hats2.len
        refine ⟨_, rfl, c, _, 0, .str "con", rfl, rfl, SqT.of hc, at0 _ _, rfl, _, rfl, ?_⟩
        show if decide (V.str "con" = V.str "con") = true then _ else _
        rw [wtt]
        refine iteT ?_
        refine ⟨_, rfl, a, _, 1, .str s, rfl, rfl, SqT.of ha, at1 _ _ _, _, rfl, c, _, 1, .str t, rfl, rfl, SqT.of hc, at1 _ _ _, rfl, _, rfl, ?_⟩
        show if decide (V.str s = V.str t) = true then _ else _
        by_cases hst : s = t
        · subst hst
          rw [wtt]
          refine iteT ?_
          refine ⟨_, rfl, a, _, 2, .ref a2, rfl, rfl, SqT.of ha, at2 _ _ _ _, a2, xs, rfl, .inr (SqT.of ha2), _, rfl, c, _, 2, .ref c2, rfl, rfl, SqT.of hc, at2 _ _ _ _, c2, zs, rfl, .inr (SqT.of hc2), rfl, _, rfl, ?_⟩
          by_cases hll : l.length = m.length
          · have z2 : decide (V.int (xs.length : Int) = V.int (zs.length : Int)) = true := decide_eq_true (by rw [l1, l2, hll])
            show if decide (V.int (xs.length : Int) = V.int (zs.length : Int)) = true then _ else _
            rw [z2]
            refine iteT ?_
            have es : (Kd.cn s l).size = 1 + Kd.sizes l := rfl
            have ll := Kd.sizes_len l
            refine ⟨_, rfl, a, _, 2, .ref a2, rfl, rfl, SqT.of ha, at2 _ _ _ _, a2, xs, rfl, .inr (SqT.of ha2), _, rfl, by omega, by omega, fun D hD => ?_⟩
            refine lc_range (n := xs.length) (fun (i : Nat) G => ∃ bs : List Addr, G D = some (.lst (bs.map V.ref)) ∧ Same H G ∧ PairsAt G bs ((l.zip m).take i) ∧ bs.length = i) ⟨[], upd_same, same_new hD _, by rw [List.take_zero]; rfl, rfl⟩ ?_ ?_
            · rintro i G hi ⟨bs, h1, h2, h3, h4⟩
              have hix : i < xs.length := hi
              have hiz : i < zs.length := by omega
              obtain ⟨ki, hki, hat⟩ := Kd.Ats.get i hats (List.getElem?_eq_getElem hix)
              obtain ⟨mi, hmi, hat2⟩ := Kd.Ats.get i hats2 (List.getElem?_eq_getElem hiz)
              have at_ok : ∀ {ws : List V} (h : i < ws.length), atI ws (0 + (i : Int)) = some ws[i] := fun {ws} h => by
                rw [show (0 : Int) + (i : Int) = ((i : Nat) : Int) by omega]
                exact atI_nat (List.getElem?_eq_getElem h)
              refine ⟨rfl, ?_⟩
              refine tYes_if ?_
              refine ⟨_, rfl, a, _, 2, .ref a2, rfl, rfl, SqT.of (h2 _ _ ha), at2 _ _ _ _, _, rfl, a2, xs, _, xs[i], rfl, rfl, SqT.of (h2 _ _ ha2), at_ok hix, _, rfl, c, _, 2, .ref c2, rfl, rfl, SqT.of (h2 _ _ hc), at2 _ _ _ _, _, rfl, c2, zs, _, zs[i], rfl, rfl, SqT.of (h2 _ _ hc2), at_ok hiz, by show 2 ≤ sizeLine; decide, fun t1 ht1 => ?_⟩
              have s1 := same_new ht1 (.tup [xs[i], zs[i]])
              have e1 : upd G t1 (.tup [xs[i], zs[i]]) t1 = some (.tup [xs[i], zs[i]]) := upd_same
              generalize upd G t1 (.tup [xs[i], zs[i]]) = G1 at s1 e1 ⊢
              refine ⟨_, s1 _ _ h1, by rw [List.length_map]; omega, bs ++ [t1], by rw [upd_same, List.map_append]; rfl, same_upd hD (sameT h2 s1) _, ?_, by rw [List.length_append, h4]; rfl⟩
              have t3 : TK G1 (upd G1 D (.lst (bs.map V.ref ++ [V.ref t1]))) := tk_list (s1 _ _ h1)
              rw [atsZip (H := H) (xs := xs) (ys := zs) hki hmi]
              exact ((h3.keep (tk_same s1)).keep t3).app ⟨ki, mi, xs[i], zs[i], [], rfl, t3 _ _ e1, hat.keep ((tk_same (sameT h2 s1)).trans t3), hat2.keep ((tk_same (sameT h2 s1)).trans t3), rfl⟩
            · rintro G ⟨bs, h1, h2, h3, h4⟩
              rw [List.take_of_length_le (by rw [List.length_zip]; have := Nat.min_le_left l.length m.length; omega)] at h3
              refine ⟨_, rfl, D, pl, _, _, rfl, rfl, h1, h2 _ _ hpl, by rw [List.length_map, List.length_map]; omega, fun p hp => ?_⟩
              have s4 := same_new hp (.lst (bs.map V.ref ++ st.map V.ref))
              have s14 := sameT h2 s4
              refine q1 (by show (l.length == m.length && s == s) = true; rw [hll, beq_self_eq_true, beq_self_eq_true]; rfl) p bs _ s14 (h2.free hp) (by rw [upd_same, List.map_append]) ?_
              exact (h3.keep (tk_same s4)).app (hM.keep (tk_same s14))
          · have z2 : decide (V.int (xs.length : Int) = V.int (zs.length : Int)) = false := decide_eq_false fun e => hll (by
              have e := V.int.inj e
              omega)
            show if decide (V.int (xs.length : Int) = V.int (zs.length : Int)) = true then _ else _
            rw [z2]
            refine iteF ?_
            refine q0 ?_
            show (l.length == m.length && s == s) = false
            rw [beq_eq_false_iff_ne.mpr hll]
            rfl
        · rw [wne hst]
          refine iteF (iteF ?_)
          refine q0 ?_
          show (l.length == m.length && s == t) = false
          rw [beq_eq_false_iff_ne.mpr hst, Bool.and_false]
end
end Toy

set_option Elab.async false
set_option linter.all false
set_option maxRecDepth 100000
set_option maxHeartbeats 4000000
/-! Part A2: what the law's solving needs, in plain Lean: turns, the table, what is shown. -/
namespace Toy
open PySem L2
/-- a meta that stands for itself is open; so is each meta of what a type comes down to -/
theorem Unj.open_of {R : Int → Kd} {u : Int → Nat} {κ : Kn} (h : Unj R u κ) {i : Int} : ∀ (n : Nat) (j : Int), u j ≤ n → R j = .mt i → ∀ q ∈ κ, q.1 ≠ i
  | n, j, hn, e => by
    by_cases op : ∀ q ∈ κ, q.1 ≠ j
    · rw [h.opn j op] at e
      injection e with e
      rw [← e]; exact op
    · have : ∃ q ∈ κ, q.1 = j := Classical.byContradiction fun z => op fun q hq e => z ⟨q, hq, e⟩
      obtain ⟨q, hq, rfl⟩ := this
      have e2 := h.solves q hq
      have c := h.cost q hq
      rw [e] at e2
      cases ht : q.2 with
      | nm s => rw [ht] at e2; cases e2
      | fn a b => rw [ht] at e2; cases e2
      | cn s l => rw [ht] at e2; cases e2
      | mt j' =>
        rw [ht] at e2 c
        have c : 1 + (2 + u j') ≤ u q.1 := c
        match n, hn with
        | 0, hn => omega
        | n + 1, hn => exact h.open_of n j' (by omega) e2.symm
theorem Unj.open_has {R : Int → Kd} {u : Int → Nat} {κ : Kn} (h : Unj R u κ) {k : Kd} {x : Int} (e : (k.ms R).hasM x) : ∀ q ∈ κ, q.1 ≠ x := by
  obtain ⟨j, _, hj⟩ := (has_ms k).mp e
  have z := ms_fix (R j) (h.idem j) x hj
  exact h.open_of (u x) x (Nat.le_refl _) z
/-- what a type is when its head is looked up -/
theorem Unj.shown {R : Int → Kd} {u : Int → Nat} {κ : Kn} (h : Unj R u κ) : ∀ (n : Nat) (k : Kd), (∀ j, k = .mt j → u j ≤ n) → Bd 7 3 k → ∃ k' : Kd, Bd 7 3 k' ∧ k'.ms R = k.ms R ∧ ((k.ms R).isM = false → k'.isM = false)
  | n, .nm s, _, b => ⟨_, b, rfl, fun _ => rfl⟩
  | n, .fn x y, _, b => ⟨_, b, rfl, fun _ => rfl⟩
  | n, .cn s l, _, b => ⟨_, b, rfl, fun _ => rfl⟩
  | n, .mt j, hn, b => by
    by_cases op : ∀ q ∈ κ, q.1 ≠ j
    · exact ⟨_, b, rfl, fun e => by
        have e : (R j).isM = false := e
        rw [h.opn j op] at e
        cases e⟩
    · have : ∃ q ∈ κ, q.1 = j := Classical.byContradiction fun z => op fun q hq e => z ⟨q, hq, e⟩
      obtain ⟨q, hq, rfl⟩ := this
      have e2 := h.solves q hq
      have c := h.cost q hq
      have hn' := hn q.1 rfl
      match n, hn' with
      | 0, hn' => omega
      | n + 1, hn' =>
        obtain ⟨k', g1, g2, g3⟩ := h.shown n q.2 (fun j' e => by
          rw [e] at c
          have c : 1 + (2 + u j') ≤ u q.1 := c
          omega) (h.bd q hq)
        exact ⟨k', g1, g2.trans e2.symm, fun e => g3 (by rw [← e2]; exact e)⟩
theorem Unj.head {R : Int → Kd} {u : Int → Nat} {κ : Kn} (h : Unj R u κ) {k : Kd} (b : Bd 7 3 k) (e : (k.ms R).isM = false) : ∃ k' : Kd, Bd 7 3 k' ∧ k'.ms R = k.ms R ∧ k'.isM = false := by
  cases k with
  | mt j =>
    obtain ⟨k', g1, g2, g3⟩ := h.shown (u j) (.mt j) (fun j' e => by injection e with e; rw [e]; exact Nat.le_refl _) b
    exact ⟨k', g1, g2, g3 e⟩
  | nm s => exact ⟨_, b, rfl, rfl⟩
  | fn x y => exact ⟨_, b, rfl, rfl⟩
  | cn s l => exact ⟨_, b, rfl, rfl⟩
theorem parts_ms (f : Int → Kd) : ∀ {k : Kd}, k.isM = false → (k.ms f).parts = k.parts.map (Kd.ms f)
  | .nm s, _ => rfl
  | .mt i, e => by cases e
  | .fn a b, _ => rfl
  | .cn s l, _ => Kd.mss_map f l
theorem alike_ms (f : Int → Kd) : ∀ {p k : Kd}, p.isM = false → k.isM = false → (p.ms f).alike (k.ms f) = p.alike k
  | .mt i, _, e, _ => by cases e
  | .nm s, k, _, e => by cases k <;> first | rfl | cases e
  | .fn a b, k, _, e => by cases k <;> first | rfl | cases e
  | .cn s l, k, _, e => by
    cases k with
    | mt i => cases e
    | nm t => rfl
    | fn a b => rfl
    | cn t m =>
      show ((Kd.mss f l).length == (Kd.mss f m).length && s == t) = (l.length == m.length && s == t)
      rw [mss_len, mss_len]
theorem isM_ms {f : Int → Kd} {k : Kd} (e : k.isM = false) : (k.ms f).isM = false := by cases k <;> first | rfl | cases e
/-- types put in both parts -/
def both (R : Int → Kd) (q : Kd × Kd) : Kd × Kd := (q.1.ms R, q.2.ms R)
open Classical in
/-- the turns till the next meta is solved, or the end -/
noncomputable def mT : List (Kd × Kd) → Nat
  | [] => 0
  | q :: r => if q.1 = q.2 then 1 + mT r else 1 + 2 * max q.1.dep q.2.dep
open Classical in
noncomputable def rT : List (Kd × Kd) → Nat
  | [] => 0
  | q :: r => if q.1 = q.2 then rT r else max q.1.dep q.2.dep
theorem mT_eq {q : Kd × Kd} {r : List (Kd × Kd)} (e : q.1 = q.2) : mT (q :: r) = 1 + mT r := by rw [mT, if_pos e]
theorem mT_ne {q : Kd × Kd} {r : List (Kd × Kd)} (e : q.1 ≠ q.2) : mT (q :: r) = 1 + 2 * max q.1.dep q.2.dep := by rw [mT, if_neg e]
theorem rT_eq {q : Kd × Kd} {r : List (Kd × Kd)} (e : q.1 = q.2) : rT (q :: r) = rT r := by rw [rT, if_pos e]
theorem rT_ne {q : Kd × Kd} {r : List (Kd × Kd)} (e : q.1 ≠ q.2) : rT (q :: r) = max q.1.dep q.2.dep := by rw [rT, if_neg e]
theorem mT_le {D : Nat} : ∀ {P : List (Kd × Kd)}, (∀ q ∈ P, q.1.dep ≤ D ∧ q.2.dep ≤ D) → mT P ≤ P.length + 2 * D ∧ rT P ≤ D
  | [], _ => ⟨Nat.zero_le _, Nat.zero_le _⟩
  | q :: r, h => by
    obtain ⟨h1, h2⟩ := h q (List.mem_cons_self ..)
    obtain ⟨i1, i2⟩ := mT_le (P := r) fun q hq => h q (List.mem_cons_of_mem _ hq)
    by_cases e : q.1 = q.2
    · rw [mT_eq e, rT_eq e, List.length_cons]; omega
    · rw [mT_ne e, rT_ne e, List.length_cons]; omega
theorem mT_step {d : Nat} {Z r : List (Kd × Kd)} (h2 : Z.length ≤ 2) (hne : ∃ z ∈ Z, z.1 ≠ z.2) (hd : ∀ z ∈ Z, z.1.dep + 1 ≤ d ∧ z.2.dep + 1 ≤ d) : mT (Z ++ r) + 1 ≤ 1 + 2 * d ∧ (Z ++ r).length + rT (Z ++ r) ≤ r.length + 1 + d := by
  match Z, h2, hne, hd with
  | [], _, ⟨z, hz, _⟩, _ => cases hz
  | [z], _, ⟨z', hz, ne⟩, hd =>
    rw [List.mem_singleton.mp hz] at ne
    obtain ⟨d1, d2⟩ := hd z (List.mem_cons_self ..)
    rw [List.cons_append, List.nil_append, mT_ne ne, rT_ne ne, List.length_cons]
    omega
  | [z, y], _, ⟨z', hz, ne⟩, hd =>
    obtain ⟨d1, d2⟩ := hd z (List.mem_cons_self ..)
    obtain ⟨d3, d4⟩ := hd y (List.mem_cons_of_mem _ (List.mem_cons_self ..))
    rw [List.cons_append, List.cons_append, List.nil_append]
    by_cases e : z.1 = z.2
    · have ne : y.1 ≠ y.2 := by
        rcases List.mem_cons.mp hz with q | q
        · rw [q] at ne; exact (ne e).elim
        · rw [List.mem_singleton.mp q] at ne; exact ne
      rw [mT_eq e, rT_eq e, mT_ne ne, rT_ne ne, List.length_cons, List.length_cons]
      omega
    · rw [mT_ne e, rT_ne e, List.length_cons, List.length_cons]
      omega
  | _ :: _ :: _ :: _, h, _, _ => exact absurd h (by rw [List.length_cons, List.length_cons, List.length_cons]; omega)
def budget : Nat → Nat
  | 0 => 274
  | 1 => 228
  | 2 => 167
  | 3 => 91
  | _ => 0
theorem budget_step {t : Nat} (h : t < 4) : budget (t + 1) + (15 * (1 + t) + 31) = budget t := by
  match t, h with
  | 0, _ => rfl
  | 1, _ => rfl
  | 2, _ => rfl
  | 3, _ => rfl
theorem budget_le (t : Nat) : budget t ≤ 274 := by
  match t with
  | 0 => decide
  | 1 => decide
  | 2 => decide
  | 3 => decide
  | t + 4 => exact Nat.zero_le _
/-- the law's table: what each meta that is known comes down to -/
def TbAt (H : Hp) (R : Int → Kd) : List (List Key × V) → Kn → Prop
  | [], κ => κ = []
  | p :: kvs, κ => ∃ q τ, κ = q :: τ ∧ p.1 = mkey q.1 ∧ (R q.1).At H p.2 ∧ TbAt H R kvs τ
theorem TbAt.keep {H H' : Hp} {R : Int → Kd} (t : TK H H') : ∀ {kvs : List (List Key × V)} {κ : Kn}, TbAt H R kvs κ → TbAt H' R kvs κ
  | [], _, h => h
  | p :: kvs, _, ⟨q, τ, e, h1, h2, h3⟩ => ⟨q, τ, e, h1, h2.keep t, h3.keep t⟩
theorem TbAt.len {H : Hp} {R : Int → Kd} : ∀ {kvs : List (List Key × V)} {κ : Kn}, TbAt H R kvs κ → kvs.length = κ.length
  | [], _, h => by
    have e : _ = [] := h
    rw [e]
    rfl
  | p :: kvs, _, ⟨q, τ, e, h1, h2, h3⟩ => by rw [e, List.length_cons, List.length_cons, h3.len]
theorem TbAt.look {H : Hp} {R : Int → Kd} (m : Int) : ∀ {kvs : List (List Key × V)} {κ : Kn}, TbAt H R kvs κ → ((∀ q ∈ κ, q.1 ≠ m) ∧ valV kvs (mkey m) = none) ∨ ((∃ q ∈ κ, q.1 = m) ∧ ∃ v, valV kvs (mkey m) = some v ∧ (R m).At H v)
  | [], _, h => by
    have e : _ = [] := h
    subst e
    exact .inl ⟨fun q hq => (by cases hq), rfl⟩
  | p :: kvs, _, ⟨q, τ, e, h1, h2, h3⟩ => by
    subst e
    by_cases z : q.1 = m
    · subst z
      exact .inr ⟨⟨q, List.mem_cons_self .., rfl⟩, p.2, valV_pos h1, h2⟩
    · rw [valV_neg (fun w => z (mkey_inj (h1.symm.trans w)))]
      rcases TbAt.look m h3 with ⟨g1, g2⟩ | ⟨⟨q', g0, g1⟩, g2⟩
      · exact .inl ⟨fun q' hq => (List.mem_cons.mp hq).elim (fun w => by rw [w]; exact z) (g1 q'), g2⟩
      · exact .inr ⟨⟨q', List.mem_cons_of_mem _ g0, g1⟩, g2⟩
theorem TbAt.names {H : Hp} {R : Int → Kd} (s : Str) : ∀ {kvs : List (List Key × V)} {κ : Kn}, TbAt H R kvs κ → valV kvs (nkey s) = none
  | [], _, _ => rfl
  | p :: kvs, _, ⟨q, τ, e, h1, h2, h3⟩ => by
    rw [valV_neg (fun w => mkey_nkey (h1.symm.trans w))]
    exact TbAt.names s h3
theorem TbAt.add {H : Hp} {R : Int → Kd} {q : Int × Kd} {v : V} (hv : (R q.1).At H v) : ∀ {kvs : List (List Key × V)} {κ : Kn}, TbAt H R kvs κ → TbAt H R (kvs ++ [(mkey q.1, v)]) (κ ++ [q])
  | [], _, h => by
    have e : _ = [] := h
    subst e
    exact ⟨q, [], rfl, rfl, hv, rfl⟩
  | p :: kvs, _, ⟨q', τ, e, h1, h2, h3⟩ => ⟨q', τ ++ [q], by rw [e]; rfl, h1, h2, TbAt.add hv h3⟩
theorem TbAt.get {H : Hp} {R : Int → Kd} : ∀ (i : Nat) {kvs : List (List Key × V)} {κ : Kn} {k : List Key} {v : V}, TbAt H R kvs κ → kvs[i]? = some (k, v) → ∃ q, κ[i]? = some q ∧ k = mkey q.1 ∧ (R q.1).At H v
  | _, [], _, _, _, _, h => by cases h
  | 0, p :: kvs, _, k, v, ⟨q, τ, e, h1, h2, h3⟩, h => by
    have h : p = (k, v) := Option.some.inj h
    subst e h
    exact ⟨q, rfl, h1, h2⟩
  | i + 1, p :: kvs, _, k, v, ⟨q, τ, e, h1, h2, h3⟩, h => by
    subst e
    exact TbAt.get i h3 h
theorem Unj.tab {R : Int → Kd} {u : Int → Nat} {κ : Kn} (h : Unj R u κ) {H : Hp} {tb : Addr} {kvs : List (List Key × V)} (e : Rd H tb (.dT kvs)) (ht : TbAt H R kvs κ) : TabAt R H tb := ⟨kvs, e, fun m => (ht.look m).imp (fun g => ⟨g.2, h.opn m g.1⟩) fun g => g.2, fun s => ht.names s⟩
/-- one meta's type -/
def one1 (i : Int) (t : Kd) : Int → Kd := fun x => if x = i then t else .mt x
theorem tab_one {H : Hp} {p : Addr} {i : Int} {t : Kd} {v : V} (e : Rd H p (.dT [(mkey i, v)])) (hv : t.At H v) : TabAt (one1 i t) H p := ⟨_, e, fun m => by
  by_cases z : m = i
  · refine .inr ⟨v, valV_pos (by rw [z]), ?_⟩
    show (if m = i then t else .mt m).At H v
    rw [if_pos z]; exact hv
  · refine .inl ⟨?_, if_neg z⟩
    rw [valV_neg (fun w => z (mkey_inj w).symm)]
    rfl, fun s => by
  rw [valV_neg (fun w => mkey_nkey w)]
  rfl⟩
theorem mts_lay : ∀ ms : List Int, Kd.lays (ms.map .mt) = true
  | [] => rfl
  | m :: ms => mts_lay ms
theorem mts_dep : ∀ ms : List Int, Kd.deps (ms.map .mt) = 0
  | [] => rfl
  | m :: ms => by
    show max 0 (Kd.deps (ms.map .mt)) = 0
    rw [mts_dep ms]; rfl
theorem mts_shaped (ms : List Int) : SeqAt.shaped (.list (Kd.Ds (ms.map .mt))) = true := by
  unfold SeqAt.shaped
  rw [Bool.and_eq_true]
  have h1 := Kd.canLays _ (mts_lay ms)
  have h2 := Kd.depths_le (ms.map .mt)
  rw [mts_dep] at h2
  refine ⟨?_, decide_eq_true ?_⟩
  · rw [PyData.canLay0]; exact h1
  · rw [PyData.depth]; omega
theorem mts_any (i : Int) : ∀ ms : List Int, ((Kd.Ds (ms.map .mt)).any fun z => PyData.eqv z (Kd.mt i).D) = decide (i ∈ ms)
  | [] => rfl
  | m :: ms => by
    rw [List.map_cons, Kd.Ds, List.any_cons, mts_any i ms]
    by_cases e : m = i
    · rw [e, eqq, Bool.true_or, decide_eq_true (List.mem_cons_self ..)]
    · have z : PyData.eqv (Kd.mt m).D (Kd.mt i).D = false := Bool.eq_false_iff.mpr fun h => e (by
        have := (Kd.eqv_iff _ _).mp h
        injection this)
      rw [z, Bool.false_or]
      by_cases g : i ∈ ms
      · rw [decide_eq_true g, decide_eq_true (List.mem_cons_of_mem _ g)]
      · rw [decide_eq_false g, decide_eq_false fun q => (List.mem_cons.mp q).elim (fun w => e w.symm) g]
theorem PairsAt.get0 {H : Hp} {a : Addr} {st : List Addr} {L : List (Kd × Kd)} (h : PairsAt H (a :: st) L) : ∃ q M x y, L = q :: M ∧ H a = some (.tup [x, y]) ∧ q.1.At H x ∧ q.2.At H y ∧ PairsAt H st M := by
  obtain ⟨p, k, x, y, M, e, h1, h2, h3, h4⟩ := h
  exact ⟨(p, k), M, x, y, e, h1, h2, h3, h4⟩
theorem PairsAt.get {H : Hp} : ∀ (i : Nat) {st : List Addr} {L : List (Kd × Kd)} {a : Addr}, PairsAt H st L → st[i]? = some a → ∃ q x y, L[i]? = some q ∧ H a = some (.tup [x, y]) ∧ q.1.At H x ∧ q.2.At H y
  | _, [], _, _, _, h => by cases h
  | 0, b :: st, _, a, ⟨p, k, x, y, M, e, h1, h2, h3, h4⟩, h => by
    have h : b = a := Option.some.inj h
    subst e h
    exact ⟨(p, k), x, y, rfl, h1, h2, h3⟩
  | i + 1, b :: st, _, a, ⟨p, k, x, y, M, e, h1, h2, h3, h4⟩, h => by
    subst e
    exact PairsAt.get i h4 h
end Toy

set_option Elab.async false
set_option linter.all false
set_option maxRecDepth 100000
set_option maxHeartbeats 4000000
/-! Part B2: the law's solving. -/
namespace Toy
open PySem L2
open PyProof.Rows (envOfC)
theorem room65 {k : Nat} {A : Around} (r : Room k A) : A.units + 65 < cLine := by
  have := r.un
  omega
/-- a display of one pair -/
theorem disp_one {G H3 : Hp} {p : Addr} {k : List Key} {v : V} (hp : G p = none) (h3 : H3 p = some (.dT (putAllT [] [(k, v)]))) (h4 : ∀ b, b ≠ p → H3 b = upd G p (.dT []) b) : Same G H3 ∧ H3 p = some (.dT [(k, v)]) := by
  refine ⟨fun b o e => ?_, ?_⟩
  · have z : b ≠ p := fun q => by rw [q, hp] at e; cases e
    rw [h4 b z, upd_ne z]; exact e
  · rw [h3]
    rfl
/-- kept but at one place that was new -/
theorem same_of_keep {H G1 G2 : Hp} {c : Addr} (hc : H c = none) (s : Same H G1) (k : Keep c G1 G2) : Same H G2 := fun b o e => k b o (fun z => by rw [z, hc] at e; cases e) (s b o e)
theorem take_ne {κ : Kn} (nd : (κ.map (·.1)).Nodup) {j : Nat} {q : Int × Kd} (h : κ[j]? = some q) : ∀ p ∈ κ.take j, p.1 ≠ q.1 := fun p hp e => by
  rw [← List.take_append_drop j κ, List.map_append] at nd
  have hd : q ∈ κ.drop j := by
    obtain ⟨h1, rfl⟩ := List.getElem?_eq_some_iff.mp h
    rw [List.drop_eq_getElem_cons h1]
    exact List.mem_cons_self ..
  exact (List.nodup_append.mp nd).2.2 _ (List.mem_map.mpr ⟨p, hp, rfl⟩) _ (List.mem_map.mpr ⟨q, hd, rfl⟩) e
section
variable {P : Program} {w : World} {K : PySem.W.Frag} {mg : Str → Option Value} {base : Heap}
abbrev sSolve : Stmt := topS 19
theorem scSolve : FnScope ["table", "one", "other", "pairs", "turn", "known", "meta", "pair"] ["table", "one", "other"] (defScope sSolve) := ⟨rfl, rfl, rfl, by decide +kernel, rfl, by decide +kernel, by decide +kernel⟩
def spSolve : Sp := fun vs H Q _ => ∃ (tb : Addr) (va vb : V) (a b : Kd) (κ : Kn) (R : Int → Kd) (uu : Int → Nat) (kvs : List (List Key × V)), vs = [.ref tb, va, vb] ∧ H tb = some (.dT kvs) ∧ TbAt H R kvs κ ∧ Unj R uu κ ∧ a.At H va ∧ b.At H vb ∧ Bd 7 3 a ∧ Bd 7 3 b ∧
  (∀ (tb' : Addr) (kvs' : List (List Key × V)) (κ' : Kn) (R' : Int → Kd) (uu' : Int → Nat) (H' : Hp), Same H H' → H' tb' = some (.dT kvs') → TbAt H' R' kvs' κ' → Unj R' uu' κ' → (∀ S, Solves' S κ' ↔ Solves' S κ ∧ a.ms S = b.ms S) → Q (.ref tb') H') ∧
  ((∀ S, Solves' S κ → a.ms S ≠ b.ms S) → ∀ H', Same H H' → Q .non H')
theorem c_solve {f : Addr} {fd : FuncData} (T : TxtV mg) (c_law_put : C8.Cal P w K mg base 18 "_law_put" (spPut 16) []) (c_law_metas : C8.Cal P w K mg base 18 "_law_metas" (spMetas 16) []) (c_law_step : C8.Cal P w K mg base 1 "_law_step" spStep []) (F : Fun K "_law_solve" "_law_solve" sSolve f fd) (b : Binds K fd ["table", "one", "other"] []) (hm : mg "_law_solve" = some (.ref f)) : C8.Cal P w K mg base 19 "_law_solve" spSolve [] := by
  refine cal_of F hm b scSolve (fun vs H Q E h => ?_) (fun cdv A outer s H vs Q E hr h => ?_)
  · obtain ⟨tb, va, vb, a, b, κ, R, uu, kvs, rfl, _⟩ := h
    rfl
  obtain ⟨tb0, va, vb, ka, kb, κ, R, uu, kvs, rfl, htb, hT, hU, hka, hkb, hia, hib, q1, qz⟩ := h
  have hu := hu_of hr
  have hu64 := hr.units
  refine ⟨_, (pss_cons (ps_set (i := 3) scSolve.nd rfl (Or.inl rfl) (pe_lst (pa_cons (pe_tup (pa_cons (C8.pe_c c_law_put hr (by decide) rfl (pa_cons (pv 1) (pa_cons (pv 0) pa_nil))) (pa_cons (C8.pe_c c_law_put hr (by decide) rfl (pa_cons (pv 2) (pa_cons (pv 0) pa_nil))) pa_nil))) pa_nil)))
    (pss_cons (ps_for PassesOwn.never rfl (pi_range1 rfl T.zrange (pa_cons pe_int pa_nil)) (pg_name (i := 4) scSolve.nd rfl (Or.inl rfl))
      (pss_cons (ps_if (pt_cmpR op_eq (pe_callB call_len_seq rfl T.zlen PySem.boot_len (pa_cons (pv 3) pa_nil)) pe_int (nomark _))
      (pss_one (ps_ret (pv 0)))
      pss_nil)
    (pss_cons (ps_asg (pe_ix ix_list (pv 3) pe_int (fun _ _ => rfl)) (pg_tup rfl (pgs_cons (pg_name (i := 1) scSolve.nd rfl (Or.inr rfl)) (pgs_cons (pg_name (i := 2) scSolve.nd rfl (Or.inr rfl)) pgs_nil))))
    (pss_cons (ps_set (i := 3) scSolve.nd rfl (Or.inl rfl) (pe_slice sl_list (pv 3) (po_some pe_int) po_none))
    (pss_one (ps_if (pt_cmpR (op_neD hu64) (pv 1) (pv 2) (nomark _))
      (C8.pss_cut (ps_if (pt_cmpR op_ne (pe_ix ix_tup (pv 1) pe_int (fun _ _ => rfl)) pe_str (nomark _))
      (pss_one (ps_asg (pe_tup (pa_cons (pv 2) (pa_cons (pv 1) pa_nil))) (pg_tup rfl (pgs_cons (pg_name (i := 1) scSolve.nd rfl (Or.inr rfl)) (pgs_cons (pg_name (i := 2) scSolve.nd rfl (Or.inr rfl)) pgs_nil)))))
      pss_nil)
    (pss_one (ps_if (pt_cmpR op_eq (pe_ix ix_tup (pv 1) pe_int (fun _ _ => rfl)) pe_str (nomark _))
      (pss_cons (ps_if (pt_cmpR (op_inD (room65 hr)) (pv 1) (C8.pe_c c_law_metas hr (by decide) rfl (pa_cons (pv 2) pa_nil)) rfl)
      (pss_one (ps_ret pe_non))
      pss_nil)
    (pss_cons (ps_set (i := 5) scSolve.nd rfl (Or.inl rfl) pe_dnewT)
    (pss_cons (ps_lock (ps_for PassesOwn.never rfl (pi_keys (pv 0)) (pg_name (i := 6) scSolve.nd rfl (Or.inl rfl))
      (pss_one (ps_dput hu (pv 5) (pv 6) (C8.pe_c c_law_put hr (by decide) rfl (pa_cons (pe_dget hu (pv 0) (pv 6) (fun _ _ => rfl)) (pa_cons (pe_dispT hu (pps_cons (pv 1) (pv 2) pps_nil) rfl rfl (by decide) (by decide)) pa_nil))) rfl))))
    (pss_cons (ps_dput hu (pv 5) (pv 1) (pv 2) rfl)
    (pss_cons (ps_set (i := 0) scSolve.nd rfl (Or.inl rfl) (pv 5))
    (pss_one (ps_setLc (i := 3) (own := [("pair", 7)]) (g := gName 7) (tt := tYes) (te := (tTup (tCons (tCall (spPut 16) [] C8.E0 (tCons (tOp (rIxT K) (tVar 7) (tC (.int 0))) (tCons (tDispT [(tVar 1, tVar 2)]) tNil))) (tCons (tCall (spPut 16) [] C8.E0 (tCons (tOp (rIxT K) (tVar 7) (tC (.int 1))) (tCons (tDispT [(tVar 1, tVar 2)]) tNil))) tNil)))) rfl scSolve.nd rfl rfl (sw_true rfl rfl rfl (by decide +kernel)) (pi_list (pv 3)) (blkOk_by (own := [("pair", 7)]) (N := ["table", "one", "other", "pairs", "turn", "known", "meta", "pair"]) (sc := defScope sSolve) (by decide +kernel)) (fun _ _ _ _ _ => (pg_name (i := 7) scSolve.nd rfl (Or.inl rfl))) (fun _ _ _ _ _ => pts_nil) (fun _ _ _ _ _ => (pe_tup (pa_cons (C8.pe_c c_law_put hr (by decide) rfl (pa_cons (pe_ix ix_tup (pv 7) pe_int (fun _ _ => rfl)) (pa_cons (pe_dispT hu (pps_cons (pv 1) (pv 2) pps_nil) rfl rfl (by decide) (by decide)) pa_nil))) (pa_cons (C8.pe_c c_law_put hr (by decide) rfl (pa_cons (pe_ix ix_tup (pv 7) pe_int (fun _ _ => rfl)) (pa_cons (pe_dispT hu (pps_cons (pv 1) (pv 2) pps_nil) rfl rfl (by decide) (by decide)) pa_nil))) pa_nil)))))))))))
      (pss_cons (ps_set (i := 3) scSolve.nd rfl (Or.inl rfl) (C8.pe_c c_law_step hr (by decide) rfl (pa_cons (pv 3) (pa_cons (pv 1) (pa_cons (pv 2) pa_nil)))))
    (pss_one (ps_if (pt_cmpR op_isN (pv 3) pe_non (nomark _))
      (pss_one (ps_ret pe_non))
      pss_nil))))))
      pss_nil))))))
    (pss_one (ps_ret (pv 0))))), ?_⟩
  have big : 100000 < sizeLine := by rw [sizeLine_eq]; decide
  have da := hia.dep
  have db := hib.dep
  have za := hia.size
  have zb := hib.size
  refine ⟨_, rfl, _, rfl, va, tb0, ka, R, rfl, hka, by omega, by omega, hU.tab (.inl htb) hT, fun x1 H1 s1 at1' => ?_⟩
  refine ⟨_, rfl, _, rfl, vb, tb0, kb, R, rfl, hkb.keep (tk_same s1), by omega, by omega, (hU.tab (.inl htb) hT).same s1, fun x2 H2 s2 at2' => ?_⟩
  refine ⟨by show 2 ≤ sizeLine; decide, fun t0 ht0 => ?_⟩
  have s3 := same_new ht0 (.tup [x1, x2])
  have e3 : upd H2 t0 (.tup [x1, x2]) t0 = some (.tup [x1, x2]) := upd_same
  generalize upd H2 t0 (.tup [x1, x2]) = H3 at s3 e3 ⊢
  refine ⟨by show 1 ≤ sizeLine; decide, fun pl0 hpl0 => ?_⟩
  have s4 := same_new hpl0 (.lst [.ref t0])
  have e4 : upd H3 pl0 (.lst [.ref t0]) pl0 = some (.lst ([t0].map V.ref)) := upd_same
  generalize upd H3 pl0 (.lst [.ref t0]) = H4 at s4 e4 ⊢
  have s04 : Same H H4 := sameT s1 (sameT s2 (sameT s3 s4))
  have ba := hU.bdK hia
  have bb := hU.bdK hib
  refine ⟨400, rfl, by decide, by decide, for_range
    (fun (i : Nat) σ G => ∃ (tb pl : Addr) (o1 o2 o4 o5 o6 : Option V) (st : List Addr) (L : List (Kd × Kd)) (κ' : Kn) (R' : Int → Kd) (u' : Int → Nat) (kvs' : List (List Key × V)),
      σ = [some (.ref tb), o1, o2, some (.ref pl), o4, o5, o6, none] ∧ Same H G ∧ Unj R' u' κ' ∧ G tb = some (.dT kvs') ∧ TbAt G R' kvs' κ' ∧ G pl = some (.lst (st.map V.ref)) ∧ PairsAt G st (L.map (both R')) ∧ (∀ q ∈ L, Bd 7 3 q.1 ∧ Bd 7 3 q.2) ∧
      (∀ S, (Solves' S κ ∧ ka.ms S = kb.ms S) ↔ (Solves' S κ' ∧ ∀ q ∈ L, q.1.ms S = q.2.ms S)) ∧ L.length + rT (L.map (both R')) ≤ 16 + 15 * κ'.length ∧ i + mT (L.map (both R')) + budget κ'.length ≤ 400)
    ⟨tb0, pl0, _, _, _, _, _, [t0], [(ka, kb)], κ, R, uu, kvs, rfl, s04, hU, s04 _ _ htb, hT.keep (tk_same s04), e4, ⟨ka.ms R, kb.ms R, x1, x2, [], rfl, s4 _ _ e3, at1'.keep (tk_same (sameT s2 (sameT s3 s4))), at2'.keep (tk_same (sameT s3 s4)), rfl⟩,
      (fun q hq => by rw [List.mem_singleton.mp hq]; exact ⟨hia, hib⟩), (fun S => ⟨fun ⟨g1, g2⟩ => ⟨g1, fun q hq => by rw [List.mem_singleton.mp hq]; exact g2⟩, fun ⟨g1, g2⟩ => ⟨g1, g2 _ (List.mem_singleton.mpr rfl)⟩⟩), ?_, ?_⟩ ?_ ?_⟩
  · have z := (mT_le (D := 15) (P := [(ka, kb)].map (both R)) (fun q hq => by rw [List.mem_singleton.mp hq]; exact ⟨ba.dep, bb.dep⟩)).2
    show 1 + _ ≤ _
    omega
  · have z := (mT_le (D := 15) (P := [(ka, kb)].map (both R)) (fun q hq => by rw [List.mem_singleton.mp hq]; exact ⟨ba.dep, bb.dep⟩)).1
    have z : mT ([(ka, kb)].map (both R)) ≤ 1 + 2 * 15 := z
    have z2 := budget_le κ.length
    omega
  · rintro i σ G hi ⟨tb, pl, o1, o2, o4, o5, o6, st, L, κ', R', u', kvs', rfl, sG, hU', etb, hT', epl, hP, hL, hS, hlen, hbud⟩
    have hlen2 : L.length ≤ 16 + 15 * κ'.length := by omega
    have l4 := hU'.len
    have stl := hP.len
    rw [List.length_map] at stl
    refine ⟨_, rfl, pl, _, rfl, .inl (SqL.of epl), rfl, _, rfl, ?_⟩
    show if decide (V.int ((st.map V.ref).length : Int) = V.int 0) = true then _ else _
    match st, L, hP, epl, stl, hL, hS, hlen, hbud, hlen2 with
    | [], L, hP, epl, stl, hL, hS, hlen, hbud, hlen2 =>
      have eL : L = [] := List.length_eq_zero_iff.mp stl.symm
      subst eL
      refine iteT ?_
      exact ⟨_, rfl, q1 tb kvs' κ' R' u' G sG etb hT' hU' fun S => ⟨fun h => (hS S).mpr ⟨h, fun q hq => absurd hq List.not_mem_nil⟩, fun h => ((hS S).mp h).1⟩⟩
    | t :: st, [], hP, epl, stl, hL, hS, hlen, hbud, hlen2 => cases stl
    | t :: st, q0 :: L, hP, epl, stl, hL, hS, hlen, hbud, hlen2 =>
      have zd : decide (V.int (((t :: st).map V.ref).length : Int) = V.int 0) = false := decide_eq_false fun e => by
        have e := V.int.inj e
        rw [List.length_map, List.length_cons] at e
        omega
      rw [zd]
      refine iteF ?_
      obtain ⟨qq, M, x, y, eM, ht, hx, hy, hM⟩ := hP.get0
      rw [List.map_cons] at eM
      obtain ⟨e1, e2⟩ := List.cons.inj eM
      subst e1 e2
      have hx : (q0.1.ms R').At G x := hx
      have hy : (q0.2.ms R').At G y := hy
      obtain ⟨b1, b2⟩ := hL q0 (List.mem_cons_self ..)
      have hLr : ∀ q ∈ L, Bd 7 3 q.1 ∧ Bd 7 3 q.2 := fun q hq => hL q (List.mem_cons_of_mem _ hq)
      have B1 := hU'.bdK b1
      have B2 := hU'.bdK b2
      simp only [List.length_cons] at hlen stl hlen2
      refine ⟨_, rfl, pl, _, 0, .ref t, rfl, rfl, SqL.of epl, at0 _ _, t, [x, y], rfl, SqT.of ht, rfl, _, _, rfl, _, _, rfl, rfl, ?_⟩
      refine ⟨_, rfl, 1, rfl, pl, _, rfl, SqL.of epl, fun pl2 hpl2 => ?_⟩
      have cut : cutV ((t :: st).map V.ref) (some 1) none = st.map V.ref := by
        rw [show (1 : Int) = ((1 : Nat) : Int) from rfl, cutN (by rw [List.length_map, List.length_cons]; omega)]
        rfl
      rw [cut]
      have s5 := same_new hpl2 (.lst (st.map V.ref))
      have e5 : upd G pl2 (.lst (st.map V.ref)) pl2 = some (.lst (st.map V.ref)) := upd_same
      generalize upd G pl2 (.lst (st.map V.ref)) = G2 at s5 e5 ⊢
      have t5 := tk_same s5
      have sG2 := sameT sG s5
      have hx2 := hx.keep t5
      have hy2 := hy.keep t5
      have hM2 := hM.keep t5
      have etb2 := s5 _ _ etb
      have hT2 := hT'.keep t5
      refine ⟨_, rfl, _, rfl, _, _, hx2.dp, hy2.dp, Kd.shaped B1.lay (by have := B1.dep; omega), Kd.shaped B2.lay (by have := B2.dep; omega), _, rfl, ?_⟩
      by_cases heq : q0.1.ms R' = q0.2.ms R'
      · have ze : PyData.eqv (q0.1.ms R').D (q0.2.ms R').D = true := (Kd.eqv_iff _ _).mpr heq
        rw [ze]
        refine iteF ?_
        have m1 : mT ((q0 :: L).map (both R')) = 1 + mT (L.map (both R')) := mT_eq heq
        have r1 : rT ((q0 :: L).map (both R')) = rT (L.map (both R')) := rT_eq heq
        rw [m1] at hbud
        rw [r1] at hlen
        refine ⟨tb, pl2, _, _, _, _, _, st, L, κ', R', u', kvs', rfl, sG2, hU', etb2, hT2, e5, hM2, hLr, fun S => ?_, by omega, by omega⟩
        rw [hS S]
        refine ⟨fun ⟨g1, g2⟩ => ⟨g1, fun q hq => g2 q (List.mem_cons_of_mem _ hq)⟩, fun ⟨g1, g2⟩ => ⟨g1, fun q hq => ?_⟩⟩
        rcases List.mem_cons.mp hq with e | e
        · rw [e, ← hU'.back g1 q0.1, ← hU'.back g1 q0.2, heq]
        · exact g2 q e
      have ze : PyData.eqv (q0.1.ms R').D (q0.2.ms R').D = false := Bool.eq_false_iff.mpr fun h => heq ((Kd.eqv_iff _ _).mp h)
      rw [ze]
      refine iteT ?_
      have m1 : mT ((q0 :: L).map (both R')) = 1 + 2 * max (q0.1.ms R').dep (q0.2.ms R').dep := mT_ne heq
      have r1 : rT ((q0 :: L).map (both R')) = max (q0.1.ms R').dep (q0.2.ms R').dep := rT_ne heq
      rw [m1] at hbud
      rw [r1] at hlen
      -- the meta first, if there is one
      refine ⟨fun σ' G' => ∃ (w1 w2 : V) (p1 p2 : Kd), σ' = [some (.ref tb), some w1, some w2, some (.ref pl2), some (.int (0 + (i : Int))), o5, o6, none] ∧ Same G2 G' ∧ (p1.ms R').At G' w1 ∧ (p2.ms R').At G' w2 ∧ Bd 7 3 p1 ∧ Bd 7 3 p2 ∧ p1.ms R' ≠ p2.ms R' ∧ ((p1.ms R').isM = false → (p2.ms R').isM = false) ∧
        (∀ S, q0.1.ms S = q0.2.ms S ↔ p1.ms S = p2.ms S) ∧ max (q0.1.ms R').dep (q0.2.ms R').dep = max (p1.ms R').dep (p2.ms R').dep, ?_, ?_⟩
      · cases hm1 : (q0.1.ms R').isM with
        | true =>
          obtain ⟨a, r, rfl, ha⟩ := id hx2.tup
          have zw : (q0.1.ms R').word = "meta" := by cases hk : q0.1.ms R' <;> rw [hk] at hm1 <;> first | rfl | cases hm1
          refine ⟨_, rfl, a, _, 0, .str (q0.1.ms R').word, rfl, rfl, SqT.of ha, at0 _ _, rfl, _, rfl, ?_⟩
          show if (!decide (V.str (q0.1.ms R').word = V.str "meta")) = true then _ else _
          rw [zw, wtt]
          refine iteF ?_
          exact ⟨_, _, q0.1, q0.2, rfl, fun _ _ e => e, hx2, hy2, b1, b2, heq, (fun e => by rw [hm1] at e; cases e), fun S => Iff.rfl, rfl⟩
        | false =>
          obtain ⟨a, r, rfl, ha⟩ := id hx2.tup
          refine ⟨_, rfl, a, _, 0, .str (q0.1.ms R').word, rfl, rfl, SqT.of ha, at0 _ _, rfl, _, rfl, ?_⟩
          show if (!decide (V.str (q0.1.ms R').word = V.str "meta")) = true then _ else _
          rw [wne (Kd.isM_word _ hm1)]
          refine iteT ?_
          refine ⟨_, rfl, _, rfl, by show 2 ≤ sizeLine; decide, fun t6 ht6 => ?_⟩
          have s6 := same_new ht6 (.tup [y, .ref a])
          refine ⟨t6, [y, .ref a], rfl, SqT.of upd_same, rfl, _, _, rfl, _, _, rfl, rfl, ?_⟩
          exact ⟨_, _, q0.2, q0.1, rfl, s6, hy2.keep (tk_same s6), hx2.keep (tk_same s6), b2, b1, fun e => heq e.symm, fun _ => hm1, fun S => eq_comm, Nat.max_comm _ _⟩
      rintro σ' G3 ⟨w1, w2, p1, p2, rfl, s6, hw1, hw2, c1, c2, hne, hmm, hS12, hmax⟩
      rw [hmax] at hbud hlen
      have sG3 := sameT sG2 s6
      have t6 := tk_same s6
      have C1 := hU'.bdK c1
      have C2 := hU'.bdK c2
      have hM3 := hM2.keep t6
      have hT3 := hT2.keep t6
      have etb3 := s6 _ _ etb2
      have e6 := s6 _ _ e5
      -- who solves
      have hSp : ∀ S, (Solves' S κ ∧ ka.ms S = kb.ms S) ↔ ((Solves' S κ' ∧ p1.ms S = p2.ms S) ∧ ∀ q ∈ L, q.1.ms S = q.2.ms S) := fun S => by
        rw [hS S]
        refine ⟨fun ⟨g1, g2⟩ => ⟨⟨g1, (hS12 S).mp (g2 q0 (List.mem_cons_self ..))⟩, fun q hq => g2 q (List.mem_cons_of_mem _ hq)⟩, fun ⟨⟨g1, g3⟩, g2⟩ => ⟨g1, fun q hq => ?_⟩⟩
        rcases List.mem_cons.mp hq with e | e
        · rw [e]; exact (hS12 S).mpr g3
        · exact g2 q e
      have stop : (∀ S, Solves' S κ' → p1.ms S ≠ p2.ms S) → ∀ G', Same G3 G' → Q .non G' := fun no G' s' => qz (fun S g1 g2 => no S ((hSp S).mp ⟨g1, g2⟩).1.1 ((hSp S).mp ⟨g1, g2⟩).1.2) G' (sameT sG3 s')
      cases hk1 : (p1.ms R').isM with
      | true =>
        obtain ⟨m, hm1⟩ : ∃ m, p1.ms R' = .mt m := by cases hk : p1.ms R' <;> rw [hk] at hk1 <;> first | exact ⟨_, rfl⟩ | cases hk1
        rw [hm1] at hw1 hne
        obtain ⟨a1, rfl, ha1⟩ := id hw1
        refine ⟨_, rfl, a1, _, 0, .str "meta", rfl, rfl, SqT.of ha1, at0 _ _, rfl, _, rfl, ?_⟩
        show if decide (V.str "meta" = V.str "meta") = true then _ else _
        rw [wtt]
        refine iteT ?_
        have hpm : (p1.ms R').hasM m := by rw [hm1]; exact rfl
        have hop := hU'.open_has (k := p1) (x := m) hpm
        have hm6 : m ∈ six := C1.ins m hpm
        have eS : ∀ S, Solves' S κ' → (p1.ms S = p2.ms S ↔ S m = p2.ms S) := fun S g => by rw [← hU'.back g p1, hm1]; exact Iff.rfl
        refine ⟨_, rfl, _, rfl, w2, p2.ms R', rfl, hw2, by have := C2.dep; omega, by have := C2.size; omega, fun Lm xs ms G4 hLm s7 eLm hxs hmem hml => ?_⟩
        have t7 := tk_same s7
        refine ⟨_, _, (hw1.keep t7).dp, .lst (SqL.of eLm) hxs.dp, Kd.shaped rfl (Nat.zero_le _), mts_shaped ms, _, rfl, ?_⟩
        rw [mts_any]
        by_cases hin : m ∈ ms
        · rw [decide_eq_true hin]
          refine iteT ?_
          have hh := (hmem m).mp hin
          exact stop (fun S g e => occurs_no (S := S) (k := p2.ms R') (by rw [hU'.back g p2]; exact (eS S g).mp e) (fun j ej => by
            rw [ej] at hh hne
            have hh : j = m := hh
            rw [hh] at hne
            exact hne rfl) hh) G4 s7
        rw [decide_eq_false hin]
        refine iteF ?_
        have out : ¬ (p2.ms R').hasM m := fun hh => hin ((hmem m).mpr hh)
        obtain ⟨u2, hU2⟩ := hU'.add hop hm6 c2 out
        obtain ⟨R2, hR2⟩ : ∃ R2 : Int → Kd, R2 = fun x => (R' x).ms (one1 m (p2.ms R')) := ⟨_, rfl⟩
        have hU2 : Unj R2 u2 (κ' ++ [(m, p2)]) := by rw [hR2]; exact hU2
        have k2 : ∀ k : Kd, (k.ms R').ms (one1 m (p2.ms R')) = k.ms R2 := fun k => by rw [hR2]; exact ms_ms R' _ k
        have R2x : ∀ x, (R' x).ms (one1 m (p2.ms R')) = R2 x := fun x => by rw [hR2]
        have R2m : R2 m = p2.ms R' := by
          rw [← R2x, hU'.opn m hop]
          exact if_pos rfl
        have l5 := hU2.len
        rw [List.length_append] at l5
        have l5 : κ'.length + 1 ≤ 4 := l5
        intro kn hkn
        have s8 := same_new hkn (.dT [])
        have e8 : upd G4 kn (.dT []) kn = some (.dT []) := upd_same
        have sG4 := sameT sG3 s7
        have hkn0 := sG4.free hkn
        have s38 : Same G3 (upd G4 kn (.dT [])) := sameT s7 s8
        generalize upd G4 kn (.dT []) = G5 at s8 e8 s38 ⊢
        have t38 := tk_same s38
        have etb5 := s38 _ _ etb3
        have hT5 := hT3.keep t38
        have e65 := s38 _ _ e6
        have hM5 := hM3.keep t38
        have ha15 := s38 _ _ ha1
        have hw25 := hw2.keep t38
        have ntk : tb ≠ kn := fun z => by rw [z, e8] at etb5; cases etb5; rw [← z] at hkn; rw [s7 _ _ etb3] at hkn; cases hkn
        have npk : pl2 ≠ kn := fun z => by rw [z, e8] at e65; cases e65
        refine ⟨tb, _, etb5, trivial, fun od => ?_⟩
        refine ⟨_, rfl, tb, od, rfl, .inr ⟨kvs', upd_same, for_it (walk_keysT (kvs := kvs'))
          (fun j σ G6 => ∃ (o6 : Option V) (kk : List (List Key × V)), σ = [some (.ref tb), some (.ref a1), some w2, some (.ref pl2), some (.int (0 + (i : Int))), some (.ref kn), o6, none] ∧ (∀ b o, b ≠ tb → b ≠ kn → G5 b = some o → G6 b = some o) ∧ G6 tb = some (.frz od (.dT kvs')) ∧ G6 kn = some (.dT kk) ∧ TbAt G6 R2 kk (κ'.take j))
          ⟨_, [], rfl, fun b o h1 _ e => by rw [upd_ne h1]; exact e, upd_same, by rw [upd_ne ntk.symm]; exact e8, by rw [List.take_zero]; rfl⟩ (fun j σ G6 _ ⟨_, _, _, _, h, _⟩ => h) ?_ ?_⟩⟩
        · rintro j x σ G6 G6' hj ⟨o6, kk, rfl, kp6, etb6, ekn6, hK6⟩ ⟨rfl, k, v', q', hkv, rfl, hq'⟩
          obtain ⟨qq, hqq, rfl, _⟩ := TbAt.get j hT5 hkv
          have qmem := List.mem_of_getElem? hqq
          have t6' : TK G5 G6' := fun c xs e => kp6 c _ (fun z => by rw [z, etb5] at e; cases e) (fun z => by rw [z, e8] at e; cases e) e
          obtain ⟨v2, hv2, hat2⟩ : ∃ v, valV kvs' (mkey qq.1) = some v ∧ (R' qq.1).At G5 v := by
            rcases hT5.look qq.1 with ⟨g, _⟩ | ⟨_, g⟩
            · exact (g qq qmem rfl).elim
            · exact g
          have Bq := hU'.bdR (hU'.dom qq qmem)
          have lk := hK6.len
          rw [List.length_take] at lk
          have lk2 := Nat.min_le_right j κ'.length
          refine ⟨_, rfl, _, rfl, tb, v2, rfl, hv2 ▸ dgetR (k := mkey qq.1) (.inr ⟨od, etb6⟩) hq', fun p hp => ⟨_, rfl, _, rfl, upd_same, [(mkey m, w2)], ⟨a1, mkey m, [], rfl, tk_new hp _ _ (t6' _ _ ha15), rfl, rfl⟩, by show 1 ≤ 15; decide, fun H7 h3 h4 => ?_⟩⟩
          obtain ⟨sd, ed⟩ := disp_one hp h3 h4
          refine ⟨v2, p, R' qq.1, one1 m (p2.ms R'), rfl, (hat2.keep t6').keep (tk_same sd), by have := Bq.dep; omega, by have := Bq.size; omega, tab_one (.inl ed) ((hw25.keep t6').keep (tk_same sd)), fun u G7 s9 at9 => ?_⟩
          rw [R2x] at at9
          have sd9 := sameT sd s9
          have ekn7 := sd9 _ _ ekn6
          have hq7 := sd9 _ _ hq'
          refine ⟨_, rfl, _, rfl, kn, _, rfl, DPut.t (k := mkey qq.1) ekn7 hq7 (by omega), ?_⟩
          have hnone : valV kk (mkey qq.1) = none := by
            rcases hK6.look qq.1 with ⟨_, g⟩ | ⟨⟨q2, g1, g2⟩, _⟩
            · exact g
            · exact (take_ne hU'.nodup hqq q2 g1 g2).elim
          rw [putK_new _ hnone]
          have tn : TK G7 (upd G7 kn (.dT (kk ++ [(mkey qq.1, u)]))) := tk_dictT ekn7
          refine ⟨_, kk ++ [(mkey qq.1, u)], rfl, fun b o h1 h2 e => by rw [upd_ne h2]; exact sd9 _ _ (kp6 b o h1 h2 e), by rw [upd_ne ntk]; exact sd9 _ _ etb6, upd_same, ?_⟩
          rw [List.take_add_one, hqq]
          exact TbAt.add (at9.keep tn) (((hK6.keep (tk_same sd9)).keep tn))
        rintro σ G6 ⟨o6', kk, rfl, kp6, etb6, ekn6, hK6⟩
        rw [hT5.len, List.take_length] at hK6
        refine ⟨etb6, ?_⟩
        have tun : TK G6 (upd G6 tb (.dT kvs')) := tk_upd fun xs e => by rw [etb6] at e; cases e
        have hK7 := hK6.keep tun
        have ekn7 : upd G6 tb (.dT kvs') kn = some (.dT kk) := by rw [upd_ne ntk.symm]; exact ekn6
        have kp7 : Keep kn G5 (upd G6 tb (.dT kvs')) := fun b o nb e => by
          by_cases z : b = tb
          · rw [z, upd_same]; rw [z, etb5] at e; exact e
          · rw [upd_ne z]; exact kp6 b o z nb e
        generalize upd G6 tb (.dT kvs') = G7 at hK7 ekn7 kp7 ⊢
        have t57 : TK G5 G7 := tk_keep kp7 fun xs e => by rw [e8] at e; cases e
        have lk := hK7.len
        refine ⟨_, rfl, _, rfl, _, rfl, kn, _, rfl, DPut.t (k := mkey m) ekn7 (t57 _ _ ha15) (by omega), ?_⟩
        have hnone : valV kk (mkey m) = none := by
          rcases hK7.look m with ⟨_, g⟩ | ⟨⟨q2, g1, g2⟩, _⟩
          · exact g
          · exact (hop q2 g1 g2).elim
        rw [putK_new _ hnone]
        have t78 : TK G7 (upd G7 kn (.dT (kk ++ [(mkey m, w2)]))) := tk_dictT ekn7
        have ekn8 : upd G7 kn (.dT (kk ++ [(mkey m, w2)])) kn = some (.dT (kk ++ [(mkey m, w2)])) := upd_same
        have kp8 : Keep kn G5 (upd G7 kn (.dT (kk ++ [(mkey m, w2)]))) := fun b o nb e => by rw [upd_ne nb]; exact kp7 b o nb e
        generalize upd G7 kn (.dT (kk ++ [(mkey m, w2)])) = G8 at t78 ekn8 kp8 ⊢
        have t58 := t57.trans t78
        have hK8 : TbAt G8 R2 (kk ++ [(mkey m, w2)]) (κ' ++ [(m, p2)]) := TbAt.add (q := (m, p2)) (show (R2 m).At G8 w2 by rw [R2m]; exact hw25.keep t58) (hK7.keep t78)
        have sG8 : Same H G8 := same_of_keep hkn0 (sameT sG3 s38) kp8
        have e68 := kp8 _ _ npk e65
        have hM8 := hM5.keep t58
        have ha18 := t58 _ _ ha15
        have hw28 := hw25.keep t58
        refine ⟨_, rfl, ?_⟩
        refine ⟨_, rfl, pl2, rfl, ⟨_, SqL.of e68⟩, fun D hD => ?_⟩
        refine lc_list (K := K) (a := pl2) (xs := st.map V.ref) (fun j G9 => ∃ bs : List Addr, G9 D = some (.lst (bs.map V.ref)) ∧ Same G8 G9 ∧ PairsAt G9 bs ((L.map (both R2)).take j) ∧ bs.length = j) ⟨[], upd_same, same_new hD _, by rw [List.take_zero]; rfl, rfl⟩ (fun j G9 _ ⟨_, _, h, _⟩ => SqL.of (h _ _ e68)) ?_ ?_
        · rintro j x G9 hxj ⟨bs, h1, h2, h3, h4⟩
          rw [List.getElem?_map] at hxj
          obtain ⟨t', ht', rfl⟩ := Option.map_eq_some_iff.mp hxj
          obtain ⟨qb, y1, y2, hqb, htt, hy1, hy2⟩ := PairsAt.get j hM8 ht'
          rw [List.getElem?_map] at hqb
          obtain ⟨q, hq, rfl⟩ := Option.map_eq_some_iff.mp hqb
          have hy1 : (q.1.ms R').At G8 y1 := hy1
          have hy2 : (q.2.ms R').At G8 y2 := hy2
          obtain ⟨d1, d2⟩ := hLr q (List.mem_of_getElem? hq)
          have D1 := hU'.bdK d1
          have D2 := hU'.bdK d2
          refine ⟨rfl, ?_⟩
          refine tYes_if ?_
          refine ⟨_, rfl, t', _, 0, y1, rfl, rfl, SqT.of (h2 _ _ htt), at0 _ _, fun p hp => ⟨_, rfl, _, rfl, upd_same, [(mkey m, w2)], ⟨a1, mkey m, [], rfl, tk_new hp _ _ (h2 _ _ ha18), rfl, rfl⟩, by show 1 ≤ 15; decide, fun H7 h3' h4' => ?_⟩⟩
          obtain ⟨sd, ed⟩ := disp_one hp h3' h4'
          have sA := sameT h2 sd
          refine ⟨y1, p, q.1.ms R', one1 m (p2.ms R'), rfl, hy1.keep (tk_same sA), by have := D1.dep; omega, by have := D1.size; omega, tab_one (.inl ed) (hw28.keep (tk_same sA)), fun u1 Ga sa ata => ?_⟩
          rw [k2] at ata
          have sB := sameT sA sa
          refine ⟨_, rfl, t', _, 1, y2, rfl, rfl, SqT.of (sB _ _ htt), at1 _ _ _, fun p' hp' => ⟨_, rfl, _, rfl, upd_same, [(mkey m, w2)], ⟨a1, mkey m, [], rfl, tk_new hp' _ _ (sB _ _ ha18), rfl, rfl⟩, by show 1 ≤ 15; decide, fun H8 h3' h4' => ?_⟩⟩
          obtain ⟨sd2, ed2⟩ := disp_one hp' h3' h4'
          have sC := sameT sB sd2
          refine ⟨y2, p', q.2.ms R', one1 m (p2.ms R'), rfl, hy2.keep (tk_same sC), by have := D2.dep; omega, by have := D2.size; omega, tab_one (.inl ed2) (hw28.keep (tk_same sC)), fun u2 Gb sb atb => ?_⟩
          rw [k2] at atb
          refine ⟨by show 2 ≤ sizeLine; decide, fun t1 ht1 => ?_⟩
          have s1' := same_new ht1 (.tup [u1, u2])
          have e1' : upd Gb t1 (.tup [u1, u2]) t1 = some (.tup [u1, u2]) := upd_same
          generalize upd Gb t1 (.tup [u1, u2]) = Gc at s1' e1' ⊢
          have sD := sameT sd (sameT sa (sameT sd2 (sameT sb s1')))
          have sE := sameT h2 sD
          have bl : bs.length ≤ 1000 := by
            have := (List.getElem?_eq_some_iff.mp ht').1
            omega
          refine ⟨_, sD _ _ h1, by rw [List.length_map]; omega, bs ++ [t1], by rw [upd_same, List.map_append]; rfl, same_upd hD sE _, ?_, by rw [List.length_append, h4]; rfl⟩
          have t3 : TK Gc (upd Gc D (.lst (bs.map V.ref ++ [V.ref t1]))) := tk_list (sD _ _ h1)
          rw [List.take_add_one, List.getElem?_map, hq]
          exact ((h3.keep (tk_same sD)).keep t3).app ⟨q.1.ms R2, q.2.ms R2, u1, u2, [], rfl, t3 _ _ e1', (ata.keep (tk_same (sameT sd2 (sameT sb s1')))).keep t3, (atb.keep (tk_same s1')).keep t3, rfl⟩
        rintro G9 ⟨bs, h1, h2, h3, h4⟩
        rw [List.take_of_length_le (by rw [List.length_map, List.length_map]; omega)] at h3
        have z := mT_le (D := 15) (P := L.map (both R2)) (fun q hq => by
          obtain ⟨q', hq', rfl⟩ := List.mem_map.mp hq
          obtain ⟨d1, d2⟩ := hLr q' hq'
          exact ⟨(hU2.bdK d1).dep, (hU2.bdK d2).dep⟩)
        rw [List.length_map] at z
        have zb2 := budget_step (t := κ'.length) (by omega)
        have eln : (κ' ++ [(m, p2)]).length = κ'.length + 1 := by rw [List.length_append]; rfl
        refine ⟨kn, D, _, _, _, _, _, bs, L, κ' ++ [(m, p2)], R2, u2, _, rfl, sameT sG8 h2, hU2, h2 _ _ ekn8, hK8.keep (tk_same h2), h1, h3, hLr, fun S => ?_, by rw [eln]; omega, by rw [eln]; omega⟩
        rw [hSp S]
        have solv : Solves' S (κ' ++ [(m, p2)]) ↔ Solves' S κ' ∧ S m = p2.ms S := ⟨fun hS => ⟨fun p hp => hS p (List.mem_append_left _ hp), hS (m, p2) (List.mem_append_right _ (List.mem_singleton.mpr rfl))⟩, fun ⟨g1, g2⟩ p hp => (List.mem_append.mp hp).elim (g1 p) fun e => by rw [List.mem_singleton.mp e]; exact g2⟩
        rw [solv]
        exact and_congr_left fun _ => and_congr_right fun g => eS S g
      | false =>
        have hk2 := hmm hk1
        obtain ⟨a1, r1', rfl, ha1⟩ := id hw1.tup
        refine ⟨_, rfl, a1, _, 0, .str (p1.ms R').word, rfl, rfl, SqT.of ha1, at0 _ _, rfl, _, rfl, ?_⟩
        show if decide (V.str (p1.ms R').word = V.str "meta") = true then _ else _
        rw [wne (Kd.isM_word _ hk1)]
        refine iteF ?_
        refine ⟨_, rfl, _, rfl, _, rfl, pl2, .ref a1, w2, st, L.map (both R'), p1.ms R', p2.ms R', rfl, e6, hM3, by omega, hw1, hw2, hk1, hk2, hne, by have := C1.size; omega, fun al Lr bs G4 s7 hLr' eLr hPr => ?_, fun al => ?_⟩
        · refine ⟨_, rfl, rfl, _, rfl, ?_⟩
          show if decide (V.ref Lr = V.non) = true then _ else _
          rw [decide_eq_false (fun e => by cases e)]
          refine iteF ?_
          obtain ⟨p1', d1, g1, n1⟩ := hU'.head c1 hk1
          obtain ⟨p2', d2, g2, n2⟩ := hU'.head c2 hk2
          have ez : (p1.ms R').parts.zip (p2.ms R').parts = (p1'.parts.zip p2'.parts).map (both R') := by
            rw [← g1, ← g2, parts_ms R' n1, parts_ms R' n2, List.zip_map]
            rfl
          have al' : p1'.alike p2' = true := by rw [← alike_ms R' n1 n2, g1, g2]; exact al
          have two : ((p1'.parts.zip p2'.parts).map (both R')).length ≤ 2 := by
            rw [List.length_map, List.length_zip]
            have := bin_two d1.bin
            have := Nat.min_le_left p1'.parts.length p2'.parts.length
            omega
          have st1 := mT_step (d := max (p1.ms R').dep (p2.ms R').dep) (Z := (p1'.parts.zip p2'.parts).map (both R')) (r := L.map (both R')) two (Classical.byContradiction fun no => hne (by
            have all : ∀ q ∈ p1'.parts.zip p2'.parts, q.1.ms R' = q.2.ms R' := fun q hq => Classical.byContradiction fun z => no ⟨both R' q, List.mem_map.mpr ⟨q, hq, rfl⟩, z⟩
            have z := (alike_yes' R' p1' p2' n1 al').2.mp all
            rw [g1, g2] at z
            exact z)) (fun z hz => by
              obtain ⟨q, hq, rfl⟩ := List.mem_map.mp hz
              obtain ⟨z1, z2⟩ := List.of_mem_zip (a := q.1) (b := q.2) hq
              have w1 := part_dep R' n1 z1
              have w2 := part_dep R' n2 z2
              rw [g1] at w1
              rw [g2] at w2
              exact ⟨by show (q.1.ms R').dep + 1 ≤ _; omega, by show (q.2.ms R').dep + 1 ≤ _; omega⟩)
          rw [← List.map_append, List.length_map, List.length_map] at st1
          rw [ez, ← List.map_append] at hPr
          refine ⟨tb, Lr, _, _, _, _, _, bs ++ st, p1'.parts.zip p2'.parts ++ L, κ', R', u', kvs', rfl, sameT sG3 s7, hU', s7 _ _ etb3, hT3.keep (tk_same s7), eLr, hPr, fun q hq => ?_, fun S => ?_, by omega, by omega⟩
          · rcases List.mem_append.mp hq with h | h
            · obtain ⟨z1, z2⟩ := List.of_mem_zip (a := q.1) (b := q.2) h
              exact ⟨bd_part z1 d1, bd_part z2 d2⟩
            · exact hLr q h
          · rw [hSp S]
            have key : Solves' S κ' → (p1.ms S = p2.ms S ↔ p1'.ms S = p2'.ms S) := fun g => by rw [← hU'.back g p1, ← hU'.back g p2, ← g1, ← g2, hU'.back g p1', hU'.back g p2']
            constructor
            · rintro ⟨⟨h1, h2⟩, h3⟩
              exact ⟨h1, fun q hq => (List.mem_append.mp hq).elim (fun h => (alike_yes' S p1' p2' n1 al').2.mpr ((key h1).mp h2) q h) (h3 q)⟩
            · rintro ⟨h1, h3⟩
              exact ⟨⟨h1, (key h1).mpr ((alike_yes' S p1' p2' n1 al').2.mp fun q hq => h3 q (List.mem_append_left _ hq))⟩, fun q hq => h3 q (List.mem_append_right _ hq)⟩
        · refine ⟨_, rfl, rfl, _, rfl, ?_⟩
          rw [decide_eq_true rfl]
          refine iteT ?_
          exact stop (fun S g e => by
            have z := alike_no' S (p1.ms R') (p2.ms R') hk1 hk2 (by rw [hU'.back g p1, hU'.back g p2]; exact e)
            rw [z] at al
            cases al) G3 (fun _ _ e => e)
  · rintro σ G ⟨tb, pl, o1, o2, o4, o5, o6, st, L, κ', R', u', kvs', rfl, sG, hU', etb, hT', epl, hP, hL, hS, hlen, hbud⟩
    have eL : L = [] := by
      cases L with
      | nil => rfl
      | cons q L =>
        exfalso
        have : 1 ≤ mT ((q :: L).map (both R')) := by
          rw [List.map_cons]
          by_cases e : (both R' q).1 = (both R' q).2
          · rw [mT_eq e]; omega
          · rw [mT_ne e]; omega
        omega
    subst eL
    exact ⟨_, rfl, q1 tb kvs' κ' R' u' G sG etb hT' hU' fun S => ⟨fun h => (hS S).mpr ⟨h, fun q hq => absurd hq List.not_mem_nil⟩, fun h => ((hS S).mp h).1⟩⟩
end
end Toy

set_option Elab.async false
set_option linter.all false
set_option maxRecDepth 100000
set_option maxHeartbeats 4000000
/-! Part C2: the law. -/
namespace Toy
open PySem L2
open PyProof.Rows (envOfC)
theorem DrawsAt.fresh {H : Hp} {p r D : Addr} (d : DrawsAt H p r) (h : H D = none) : D ≠ p ∧ D ≠ r := by
  obtain ⟨row, i, z, g1, g2⟩ := d
  exact ⟨fun e => (by rw [e, g1] at h; cases h), fun e => (by rw [e, g2] at h; cases h)⟩
theorem drawsK {o p r : Addr} {G G' : Hp} (d : DrawsAt G p r) (h1 : p ≠ o) (h2 : r ≠ o) (k : Keep o G G') : DrawsAt G' p r := by
  obtain ⟨row, i, z, g1, g2⟩ := d
  exact ⟨row, i, z, k _ _ h1 g1, k _ _ h2 g2⟩
theorem unK {C o d q : Addr} {n : Int} {κ : Kn} {G G' : Hp} (h : Un C G o d n κ) (h1 : o ≠ q) (h2 : d ≠ q) (t : TK G G') (k : Keep q G G') : Un C G' o d n κ := by
  obtain ⟨dx, kvs, a1, a2, a3⟩ := h
  exact ⟨dx, kvs, k _ _ h1 a1, k _ _ h2 a2, a3.keep t⟩
theorem bd_of {d : Nat} {k : Kd} (h : Gm 4 (d + 1) k) (hd : d < 3) : Bd 7 3 k := by
  have z := h.size d rfl
  have z2 : 2 ^ (d + 1) ≤ 2 ^ 3 := Nat.pow_le_pow_right (by decide) (by omega)
  have z3 : (2 : Nat) ^ 3 = 8 := by decide
  have z4 := h.dep
  exact ⟨by omega, by omega, h.lay, fun m hm => (h.has m hm).1, h.bin⟩
theorem fnd_new {θ : Int → Kd} {H : Hp} {a : Addr} (e : H a = some (.dT [])) : FndAt θ H a := ⟨[], [], e, rfl, List.nodup_nil, (fun m h => absurd h List.not_mem_nil), fun m => .inl ⟨List.not_mem_nil, rfl⟩⟩
theorem fnd_same {θ : Int → Kd} {H H' : Hp} {a : Addr} (s : Same H H') (h : FndAt θ H a) : FndAt θ H' a := by
  obtain ⟨ks, kv, f1, f2⟩ := id h
  exact h.keep (tk_same s) f1 (s _ _ f1)
theorem fnd_off {θ : Int → Kd} {H H' : Hp} {a c : Addr} (t : TK H H') (k : Keep c H H') (n : a ≠ c) (h : FndAt θ H a) : FndAt θ H' a := by
  obtain ⟨ks, kv, f1, f2⟩ := id h
  exact h.keep t f1 (k _ _ n f1)
theorem fnd_nt {θ : Int → Kd} {H : Hp} {a : Addr} (h : FndAt θ H a) : ∀ xs, H a ≠ some (.tup xs) := fun xs e => by
  obtain ⟨ks, kv, f1, _⟩ := h
  rw [e] at f1
  cases f1
section
variable {P : Program} {w : World} {K : PySem.W.Frag} {mg : Str → Option Value} {base : Heap} {C : Addr}
/-- the table and the unifier agree -/
def Agree (C : Addr) (G : Hp) (o d tb : Addr) : Prop := ∃ (kvs : List (List Key × V)) (κ κT : Kn) (R RT : Int → Kd) (u uT : Int → Nat), G tb = some (.dT kvs) ∧ TbAt G RT kvs κT ∧ Unj RT uT κT ∧ Un C G o d 4 κ ∧ Unj R u κ ∧ ∀ S, Solves' S κ ↔ Solves' S κT
abbrev sLaw : Stmt := topS 21
theorem scLaw : FnScope ["script", "draws", "turn", "unifier", "k", "table", "one", "other", "told", "left", "right", "j", "due", "mine"] ["script"] (defScope sLaw) := ⟨rfl, rfl, rfl, by decide +kernel, rfl, by decide +kernel, by decide +kernel⟩
def spLaw (K : PySem.W.Frag) : Sp := fun vs H Q _ => ∃ (a : Addr) (ns : List Int), vs = [.ref a] ∧ SqL K H a (ns.map V.int) ∧ ns.length ≤ 63 ∧ ∀ H', Q (.bl true) H'
theorem c_law {f : Addr} {fd : FuncData} (T : TxtV mg) (c_law_reader : C8.Cal P w K mg base 2 "_law_reader" (spReader K) []) (c_law_next : C8.Cal P w K mg base 2 "_law_next" spNext []) (c_law_kind : C8.Cal P w K mg base 5 "_law_kind" (spKind 3) []) (c_law_put : C8.Cal P w K mg base 18 "_law_put" (spPut 16) []) (c_law_match : C8.Cal P w K mg base 18 "_law_match" (spMatch 16) []) (c_law_solve : C8.Cal P w K mg base 19 "_law_solve" spSolve []) (c_law_told : C8.Cal P w K mg base 5 "_law_told" (spTold C) [])
    (cUnifier : C8.Mak P w K mg base 1 "Unifier" C (spInit C) []) (cfresh : C8.Met P w K mg base 1 C "fresh" (spFresh C) []) (cresolve : C8.Met P w K mg base 3 C "resolve" (spResolve C) []) (F : Fun K "law" "law" sLaw f fd) : FnOk P w K mg base CX0 20 f fd ["script"] (spLaw K) := by
  refine F.ok scLaw (fun vs H Q E h => ?_) (fun cdv A outer s H vs Q E hr h => ?_)
  · obtain ⟨a, ns, rfl, _⟩ := h
    rfl
  obtain ⟨a, ns, rfl, hS, h63, q⟩ := h
  have hu := hu_of hr
  have hu64 := hr.units
  refine ⟨_, (pss_cons (ps_set (i := 1) scLaw.nd rfl (Or.inl rfl) (C8.pe_c c_law_reader hr (by decide) rfl (pa_cons (pv 0) pa_nil)))
    (pss_cons (ps_for PassesOwn.never rfl (pi_range1 rfl T.zrange (pa_cons pe_int pa_nil)) (pg_name (i := 2) scLaw.nd rfl (Or.inl rfl))
      (pss_cons (ps_set (i := 3) scLaw.nd rfl (Or.inl rfl) (pe_mk0 cUnifier hr (by decide) rfl))
    (pss_cons (ps_for PassesOwn.never rfl (pi_range1 rfl T.zrange (pa_cons pe_int pa_nil)) (pg_name (i := 4) scLaw.nd rfl (Or.inl rfl))
      (pss_one (ps_expr (C8.pe_mt0 cfresh hr (by decide) (pv 3)))))
    (pss_cons (ps_set (i := 5) scLaw.nd rfl (Or.inl rfl) pe_dnewT)
    (pss_one (ps_for PassesOwn.never rfl (pi_range1 rfl T.zrange (pa_cons pe_int pa_nil)) (pg_name (i := 4) scLaw.nd rfl (Or.inl rfl))
      (pss_one (ps_if (pt_cmpR op_notN (pv 5) pe_non (nomark _))
      (pss_cons (ps_set (i := 6) scLaw.nd rfl (Or.inl rfl) (C8.pe_c c_law_kind hr (by decide) rfl (pa_cons (pv 1) (pa_cons (C8.pe_c c_law_next hr (by decide) rfl (pa_cons (pv 1) (pa_cons pe_int pa_nil))) (pa_cons pe_int pa_nil)))))
    (pss_cons (ps_set (i := 7) scLaw.nd rfl (Or.inl rfl) (C8.pe_c c_law_kind hr (by decide) rfl (pa_cons (pv 1) (pa_cons (C8.pe_c c_law_next hr (by decide) rfl (pa_cons (pv 1) (pa_cons pe_int pa_nil))) (pa_cons pe_int pa_nil)))))
    (pss_cons (ps_set (i := 5) scLaw.nd rfl (Or.inl rfl) (C8.pe_c c_law_solve hr (by decide) rfl (pa_cons (pv 5) (pa_cons (pv 6) (pa_cons (pv 7) pa_nil)))))
    (pss_cons (ps_set (i := 8) scLaw.nd rfl (Or.inl rfl) (C8.pe_c c_law_told hr (by decide) rfl (pa_cons (pv 3) (pa_cons (pv 6) (pa_cons (pv 7) pa_nil)))))
    (pss_cons (ps_if (PW.pt (pw_or (PW.pt (pw_and (pt_cmpR op_isN (pv 5) pe_non (nomark _)) (pw_and1 (pt_cmpR op_isnot_bl (pv 8) pe_bl (nomark _))))) (pw_or1 (PW.pt (pw_and (pt_cmpR op_notN (pv 5) pe_non (nomark _)) (pw_and1 (pt_cmpR op_notN (pv 8) pe_non (nomark _))))))))
      (pss_one (ps_ret pe_bl))
      pss_nil)
    (pss_cons (ps_set (i := 9) scLaw.nd rfl (Or.inl rfl) pe_dnewT)
    (pss_cons (ps_set (i := 10) scLaw.nd rfl (Or.inl rfl) pe_dnewT)
    (pss_one (ps_for PassesOwn.never rfl (pi_range1 rfl T.zrange (pa_cons pe_int pa_nil)) (pg_name (i := 11) scLaw.nd rfl (Or.inl rfl))
      (pss_one (ps_if (pt_cmpR op_notN (pv 5) pe_non (nomark _))
      (pss_cons (ps_set (i := 12) scLaw.nd rfl (Or.inl rfl) (C8.pe_c c_law_put hr (by decide) rfl (pa_cons (pe_tup (pa_cons pe_str (pa_cons (pv 11) pa_nil))) (pa_cons (pv 5) pa_nil))))
    (pss_cons (ps_set (i := 13) scLaw.nd rfl (Or.inl rfl) (C8.pe_mt cresolve hr (by decide) (pv 3) (pa_cons (pe_tup (pa_cons pe_str (pa_cons (pv 11) pa_nil))) pa_nil)))
    (pss_one (ps_if (PW.pt (pw_or (pt_not (pt_val (C8.pe_c c_law_match hr (by decide) rfl (pa_cons (pv 13) (pa_cons (pv 12) (pa_cons pe_str (pa_cons (pv 9) pa_nil))))))) (pw_or1 (pt_not (pt_val (C8.pe_c c_law_match hr (by decide) rfl (pa_cons (pv 12) (pa_cons (pv 13) (pa_cons pe_str (pa_cons (pv 10) pa_nil))))))))))
      (pss_one (ps_ret pe_bl))
      pss_nil))))
      pss_nil)))))))))))
      pss_nil))))))))
    (pss_one (ps_ret pe_bl)))), ?_⟩
  refine ⟨_, rfl, a, ns, rfl, hS, h63, fun p r H1 hp s1 d1 => ?_⟩
  refine ⟨4, rfl, by decide, by decide, for_range
    (fun (i : Nat) σ G => ∃ (v2 v3 v4 v5 v6 v7 v8 v9 v10 v11 v12 v13 : Option V), σ = [some (.ref a), some (.ref p), v2, v3, v4, v5, v6, v7, v8, v9, v10, v11, v12, v13] ∧ DrawsAt G p r)
    ⟨_, _, _, _, _, _, _, _, _, _, _, _, rfl, d1⟩ ?_ ?_⟩
  · rintro i0 σ G hi0 ⟨v2, v3, v4, v5, v6, v7, v8, v9, v10, v11, v12, v13, rfl, dG⟩
    intro o dx0 no ndx nex
    have s0 : Same G (upd (upd G dx0 (.own o)) o (.ins C dx0 [])) := fun b u e => by
      rw [upd_ne (ne_of_none e no), upd_ne (ne_of_none e ndx)]
      exact e
    refine ⟨o, dx0, rfl, upd_same, fun d G1 hd hUn k1 => ⟨rfl, ?_⟩⟩
    have sG1 : Same G G1 := fun b u e => k1 b u (s0 b u e) (ne_of_none e no)
    have dG1 := dG.same sG1
    have nop : o ≠ p := (dG.fresh no).1
    have hd0 : G d = none := s0.free hd
    have ndp : d ≠ p := (dG.fresh hd0).1
    have nor : o ≠ r := (dG.fresh no).2
    have ndr : d ≠ r := (dG.fresh hd0).2
    have mno : ((¬ ("fresh" : Str) = "made" ∧ ¬ ("fresh" : Str) = "known")) ∧ (¬ ("resolve" : Str) = "made" ∧ ¬ ("resolve" : Str) = "known") := by decide +kernel
    refine ⟨4, rfl, by decide, by decide, for_range
      (fun (i : Nat) σ G2 => ∃ (v4 : Option V), σ = [some (.ref a), some (.ref p), some (.int (0 + (i0 : Int))), some (.ref o), v4, v5, v6, v7, v8, v9, v10, v11, v12, v13] ∧ DrawsAt G2 p r ∧ Un C G2 o d (i : Int) [])
      ⟨_, rfl, dG1, hUn⟩ ?_ ?_⟩
    · rintro i σ G2 hi ⟨v4, rfl, dG2, hUn2⟩
      obtain ⟨dx, kvs, ho2, hd2, hK2⟩ := id hUn2
      refine ⟨_, rfl, o, dx, _, rfl, ho2, fldU_no _ _ mno.1.1 mno.1.2, o, d, (i : Int), [], rfl, hUn2, by omega, by omega, fun u G3 k3 un3 at3' => ?_⟩
      exact ⟨_, rfl, drawsK dG2 nop.symm nor.symm k3, un3⟩
    rintro σ G2 ⟨v4', rfl, dG2, hUn2⟩
    intro tb htb
    have s3 := same_new htb (.dT [])
    have e3 : upd G2 tb (.dT []) tb = some (.dT []) := upd_same
    have dG3 := dG2.same s3
    have hUn3 := hUn2.same s3
    generalize upd G2 tb (.dT []) = G3 at s3 e3 dG3 hUn3 ⊢
    refine ⟨5, rfl, by decide, by decide, for_range
      (fun (i : Nat) σ G4 => ∃ (v4 v6 v7 v8 v9 v10 v11 v12 v13 : Option V) (tv : V), σ = [some (.ref a), some (.ref p), some (.int (0 + (i0 : Int))), some (.ref o), v4, some tv, v6, v7, v8, v9, v10, v11, v12, v13] ∧ DrawsAt G4 p r ∧ (tv = .non ∨ ∃ tb, tv = .ref tb ∧ Agree C G4 o d tb))
      ⟨_, _, _, _, _, _, _, _, _, _, rfl, dG3, .inr ⟨tb, rfl, [], [], [], _, _, _, _, e3, rfl, Unj.start, hUn3, Unj.start, fun S => Iff.rfl⟩⟩ ?_ ?_⟩
    · clear hUn3 hUn2 dG3 e3 s3 dG2 dG1 sG1 hUn k1
      rintro i σ G4 hi ⟨v4, v6, v7, v8, v9, v10, v11, v12, v13, tv, rfl, dG4, hor⟩
      rcases hor with rfl | ⟨tb, rfl, kvs, κ, κT, R, RT, u, uT, etb, hT, hUT, hUn4, hU, hSS⟩
      · refine ⟨_, rfl, rfl, _, rfl, ?_⟩
        refine iteF ?_
        exact ⟨_, _, _, _, _, _, _, _, _, _, rfl, dG4, .inl rfl⟩
      refine ⟨_, rfl, rfl, _, rfl, ?_⟩
      refine iteT ?_
      have ntp : ∀ {G : Hp}, DrawsAt G p r → (∃ kvs, G tb = some (.dT kvs)) → tb ≠ p := fun dG ⟨kvs, e⟩ z => by
        obtain ⟨_, _, _, h, _⟩ := dG
        rw [z, h] at e
        cases e
      have np := ntp dG4 ⟨_, etb⟩
      refine ⟨_, rfl, _, rfl, p, r, 3, rfl, by decide, dG4, fun n1 H3 n10 n13 k3 d3 => ?_⟩
      refine ⟨p, r, n1.toNat, 4, by show [V.ref p, V.int n1, V.int 4] = _; rw [Int.toNat_of_nonneg n10], by omega, .inr rfl, d3, fun va ka H4 k4 d4 at4' g4 => ?_⟩
      refine ⟨_, rfl, _, rfl, p, r, 3, rfl, by decide, d4, fun n2 H5 n20 n23 k5 d5 => ?_⟩
      refine ⟨p, r, n2.toNat, 4, by show [V.ref p, V.int n2, V.int 4] = _; rw [Int.toNat_of_nonneg n20], by omega, .inr rfl, d5, fun vb kb H6 k6 d6 at6' g6 => ?_⟩
      have k46 : Keep p G4 H6 := k3.trans (k4.trans (k5.trans k6))
      have t46 : TK G4 H6 := tk_keep k46 dG4.notup
      have hka : ka.At H6 va := at4'.keep (tk_keep (k5.trans k6) d4.notup)
      have ba := bd_of g4 (by omega)
      have bb := bd_of g6 (by omega)
      have etb6 := k46 _ _ np etb
      have hT6 := hT.keep t46
      have hUn6 := unK hUn4 nop ndp t46 k46
      refine ⟨_, rfl, _, rfl, _, rfl, tb, va, vb, ka, kb, κT, RT, uT, kvs, rfl, etb6, hT6, hUT, hka, at6', ba, bb, fun tb' kvs' κT' RT' uT' H7 s7 etb7 hT7 hUT' hS7 => ?_, fun no7 H7 s7 => ?_⟩
      · have t7 := tk_same s7
        have hUn7 := hUn6.same s7
        have d7 := d6.same s7
        refine ⟨_, rfl, _, rfl, _, rfl, o, d, 4, κ, va, vb, ka, kb, R, u, rfl, hUn7, hU, hka.keep t7, at6'.keep t7, ba, bb, fun κ' R' u' H8 k8 hUn8 hU' hS8 => ?_, fun no8 H8 k8 => ?_⟩
        · obtain ⟨dx, kvd, ho7, hd7, hK7⟩ := id hUn7
          have t8 : TK H7 H8 := tk_keep k8 fun xs e => by rw [hd7] at e; cases e
          have ntd : tb' ≠ d := fun z => by rw [z, hd7] at etb7; cases etb7
          have etb8 := k8 _ _ ntd etb7
          have hT8 := hT7.keep t8
          have d8 := drawsK d7 ndp.symm ndr.symm k8
          have agree : ∀ S, Solves' S κ' ↔ Solves' S κT' := fun S => by rw [hS8 S, hS7 S, hSS S]
          refine ⟨_, rfl, rfl, _, rfl, ?_⟩
          refine iteF (iteF ?_)
          refine ⟨_, rfl, rfl, _, rfl, ?_⟩
          refine iteT ?_
          refine ⟨_, rfl, rfl, _, rfl, ?_⟩
          refine iteF ?_
          clear hUn7 hT7 etb7 d7 ho7 hd7 hK7
          intro lf hlf
          have s9 := same_new hlf (.dT [])
          have e9 : upd H8 lf (.dT []) lf = some (.dT []) := upd_same
          generalize upd H8 lf (.dT []) = H9 at s9 e9 ⊢
          intro rt hrt
          have s10 := same_new hrt (.dT [])
          have e10 : upd H9 rt (.dT []) rt = some (.dT []) := upd_same
          have nlr : lf ≠ rt := ne_of_none e9 hrt
          have e9' := s10 _ _ e9
          have s810 := sameT s9 s10
          have hUn10 := hUn8.same s810
          have d10 := d8.same s810
          have etb10 := s810 _ _ etb8
          have hT10 := hT8.keep (tk_same s810)
          have nlp : ∀ {x : Addr}, H8 x = none → x ≠ p ∧ x ≠ r := fun h => d8.fresh h
          have hrt8 := s9.free hrt
          have nlo : lf ≠ o ∧ lf ≠ d ∧ lf ≠ tb' := by
            obtain ⟨_, _, g1, g2, _⟩ := id hUn8
            exact ⟨(fun z => by rw [z, g1] at hlf; cases hlf), (fun z => by rw [z, g2] at hlf; cases hlf), (fun z => by rw [z, etb8] at hlf; cases hlf)⟩
          have nro : rt ≠ o ∧ rt ≠ d ∧ rt ≠ tb' := by
            obtain ⟨_, _, g1, g2, _⟩ := id hUn8
            exact ⟨(fun z => by rw [z, g1] at hrt8; cases hrt8), (fun z => by rw [z, g2] at hrt8; cases hrt8), (fun z => by rw [z, etb8] at hrt8; cases hrt8)⟩
          obtain ⟨nl1, nl2⟩ := nlp hlf
          obtain ⟨nr1, nr2⟩ := nlp hrt8
          generalize upd H9 rt (.dT []) = H10 at s10 e10 e9' s810 hUn10 d10 etb10 hT10 ⊢
          refine ⟨4, rfl, by decide, by decide, for_range
            (fun (j : Nat) σ G => ∃ (v11 v12 v13 : Option V), σ = [some (.ref a), some (.ref p), some (.int (0 + (i0 : Int))), some (.ref o), some (.int (0 + (i : Int))), some (.ref tb'), some va, some vb, some .non, some (.ref lf), some (.ref rt), v11, v12, v13] ∧ DrawsAt G p r ∧ G tb' = some (.dT kvs') ∧ TbAt G RT' kvs' κT' ∧ Un C G o d 4 κ' ∧ FndAt RT' G lf ∧ FndAt R' G rt)
            ⟨_, _, _, rfl, d10, etb10, hT10, hUn10, fnd_new e9', fnd_new e10⟩ ?_ ?_⟩
          · rintro j σ G hj ⟨v11, v12, v13, rfl, dGj, etbj, hTj, hUnj, Fl, Fr⟩
            have hj4 : j < 4 := hj
            have j6 : (j : Int) ∈ six := six_of (by omega) (by omega)
            refine ⟨_, rfl, rfl, _, rfl, ?_⟩
            refine iteT ?_
            refine ⟨_, rfl, by show 2 ≤ sizeLine; decide, fun t1 ht1 => ?_⟩
            have s1' := same_new ht1 (.tup [.str "meta", .int (0 + (j : Int))])
            have e1' : upd G t1 (.tup [.str "meta", .int (0 + (j : Int))]) t1 = some (.tup [.str "meta", .int (j : Int)]) := by rw [upd_same, show (0 : Int) + (j : Int) = (j : Int) by omega]
            generalize upd G t1 (.tup [.str "meta", .int (0 + (j : Int))]) = Ga at s1' e1' ⊢
            have BT := hUT'.bdR j6
            have BR := hU'.bdR j6
            refine ⟨_, rfl, .ref t1, tb', .mt (j : Int), RT', rfl, ⟨t1, rfl, e1'⟩, Nat.zero_lt_succ _, by show 1 ≤ 100000; decide, hUT'.tab (.inl (s1' _ _ etbj)) (hTj.keep (tk_same s1')), fun w1 Gb sb atb => ?_⟩
            have atb : (RT' (j : Int)).At Gb w1 := atb
            have sGb := sameT s1' sb
            have hUnb := hUnj.same sGb
            obtain ⟨dxb, kvb, hob, hdb, hKb⟩ := id hUnb
            refine ⟨_, rfl, o, dxb, _, rfl, hob, fldU_no _ _ mno.2.1 mno.2.2, _, rfl, by show 2 ≤ sizeLine; decide, fun t2 ht2 => ?_⟩
            have s2' := same_new ht2 (.tup [.str "meta", .int (0 + (j : Int))])
            have e2' : upd Gb t2 (.tup [.str "meta", .int (0 + (j : Int))]) t2 = some (.tup [.str "meta", .int (j : Int)]) := by rw [upd_same, show (0 : Int) + (j : Int) = (j : Int) by omega]
            generalize upd Gb t2 (.tup [.str "meta", .int (0 + (j : Int))]) = Gc at s2' e2' ⊢
            refine ⟨o, d, 4, κ', .ref t2, .mt (j : Int), R', R', u', rfl, hUnb.same s2', hU'.uni, ⟨t2, rfl, e2'⟩, by show (R' (j : Int)).size ≤ 20000; have := BR.size; omega, fun w2 Gd' sd atd => ?_⟩
            have atd : (R' (j : Int)).At Gd' w2 := atd
            have sGd := sameT sGb (sameT s2' sd)
            have atb' := atb.keep (tk_same (sameT s2' sd))
            have Fl2 := fnd_same sGd Fl
            have Fr2 := fnd_same sGd Fr
            have eT : (R' (j : Int)).ms RT' = RT' (j : Int) := (hU'.all RT' ((agree RT').mpr hUT'.solves) _).symm
            have eR : (RT' (j : Int)).ms R' = R' (j : Int) := (hUT'.all R' ((agree R').mp hU'.solves) _).symm
            refine ⟨_, rfl, _, rfl, _, rfl, w2, w1, lf, R' (j : Int), RT', rfl, atd, by rw [eT]; exact atb', by have := BR.dep; omega, BR.ins, by rw [eT]; exact ⟨BT.lay, by have := BT.dep; omega⟩, by have := BR.size; omega, Fl2, fun Ge ke Fl3 => ⟨true, rfl, ?_⟩⟩
            have te : TK Gd' Ge := tk_keep ke (fnd_nt Fl2)
            refine iteF ?_
            refine ⟨_, rfl, _, rfl, _, rfl, w1, w2, rt, RT' (j : Int), R', rfl, atb'.keep te, by rw [eR]; exact atd.keep te, by have := BT.dep; omega, BT.ins, by rw [eR]; exact ⟨BR.lay, by have := BR.dep; omega⟩, by have := BT.size; omega, fnd_off te ke nlr.symm Fr2, fun Gf kf Fr3 => ⟨true, rfl, ?_⟩⟩
            have tf : TK Ge Gf := tk_keep kf (fnd_nt (fnd_off te ke nlr.symm Fr2))
            refine iteF ?_
            have hUnd := hUnb.same (sameT s2' sd)
            exact ⟨_, _, _, rfl, drawsK (drawsK (dGj.same sGd) nl1.symm nl2.symm ke) nr1.symm nr2.symm kf, kf _ _ nro.2.2.symm (ke _ _ nlo.2.2.symm (sGd _ _ etbj)), ((hTj.keep (tk_same sGd)).keep te).keep tf,
              unK (unK hUnd nlo.1.symm nlo.2.1.symm te ke) nro.1.symm nro.2.1.symm tf kf, fnd_off tf kf nlr Fl3, Fr3⟩
          rintro σ G ⟨v11, v12, v13, rfl, dGj, etbj, hTj, hUnj, _, _⟩
          exact ⟨_, _, _, _, _, _, _, _, _, _, rfl, dGj, .inr ⟨tb', rfl, kvs', κ', κT', R', RT', u', uT', etbj, hTj, hUT', hUnj, hU', agree⟩⟩
        · obtain ⟨g1, g2⟩ := (hS7 RT').mp hUT'.solves
          exact (no8 RT' ((hSS RT').mpr g1) g2).elim
      · have t7 := tk_same s7
        have hUn7 := hUn6.same s7
        have d7 := d6.same s7
        refine ⟨_, rfl, _, rfl, _, rfl, o, d, 4, κ, va, vb, ka, kb, R, u, rfl, hUn7, hU, hka.keep t7, at6'.keep t7, ba, bb, fun κ' R' u' H8 k8 hUn8 hU' hS8 => ?_, fun no8 H8 k8 => ?_⟩
        · obtain ⟨g1, g2⟩ := (hS8 R').mp hU'.solves
          exact (no7 R' ((hSS R').mp g1) g2).elim
        · have d8 := drawsK d7 ndp.symm ndr.symm k8
          refine ⟨_, rfl, rfl, _, rfl, ?_⟩
          refine iteT ?_
          refine ⟨_, rfl, _, _, rfl, rfl, _, rfl, ?_⟩
          refine iteF ?_
          refine ⟨_, rfl, rfl, _, rfl, ?_⟩
          refine iteF (iteF ?_)
          intro lf hlf
          have s9 := same_new hlf (.dT [])
          generalize upd H8 lf (.dT []) = H9 at s9 ⊢
          intro rt hrt
          have s10 := same_new hrt (.dT [])
          have d10 := d8.same (sameT s9 s10)
          generalize upd H9 rt (.dT []) = H10 at s10 d10 ⊢
          refine ⟨4, rfl, by decide, by decide, for_range
            (fun (j : Nat) σ G => ∃ (v11 : Option V), σ = [some (.ref a), some (.ref p), some (.int (0 + (i0 : Int))), some (.ref o), some (.int (0 + (i : Int))), some .non, some va, some vb, some (.bl true), some (.ref lf), some (.ref rt), v11, v12, v13] ∧ DrawsAt G p r)
            ⟨_, rfl, d10⟩ ?_ ?_⟩
          · rintro j σ G hj ⟨v11, rfl, dGj⟩
            refine ⟨_, rfl, rfl, _, rfl, ?_⟩
            refine iteF ?_
            exact ⟨_, rfl, dGj⟩
          rintro σ G ⟨v11, rfl, dGj⟩
          exact ⟨_, _, _, _, _, _, _, _, _, _, rfl, dGj, .inl rfl⟩
    rintro σ G4 ⟨v4, v6, v7, v8, v9, v10, v11, v12, v13, tv, rfl, dG4, _⟩
    exact ⟨_, _, _, _, _, _, _, _, _, _, _, _, rfl, dG4⟩
  rintro σ G ⟨v2, v3, v4, v5, v6, v7, v8, v9, v10, v11, v12, v13, rfl, dG⟩
  exact q G
end
end Toy

set_option Elab.async false
set_option linter.all false
set_option maxRecDepth 100000
set_option maxHeartbeats 4000000
/-! The last part: what the program's top has left, and the end. -/
namespace Toy
open PySem L2
open PyProof.Rows (envOfC)
theorem all_mk {l : PySem.W.OpenLaw} {w : World} {K : PySem.W.Frag} {h : Heap} {mg : Str → Option Value} {fa : Addr} {f0 f1 f2 f3 f4 f5 f6 f7 f8 f9 f10 f11 f12 f13 f14 : Addr} (X : K.In h) (G : h.Ns mainGlobals mg) (hfa : mg "law" = some (.ref fa))
    {od0 an0 od1 an1 od2 an2 od3 an3 od4 an4 od5 an5 od6 an6 od7 an7 od8 an8 od9 an9 od10 an10 od11 an11 od12 an12 od13 an13 od14 an14 : Option Addr} {sl0 sl1 sl2 sl3 sl4 sl5 sl6 sl7 sl8 sl9 sl10 sl11 sl12 sl13 sl14 : Array (Option Value)} {oc0 kV0 dc0 pm0 cd0 ct0 oc1 kV1 dc1 pm1 cd1 ct1 oc2 kV2 dc2 pm2 cd2 ct2 oc3 kV3 dc3 pm3 cd3 ct3 oc4 kV4 dc4 pm4 cd4 ct4 oc5 kV5 dc5 pm5 cd5 ct5 oc6 kV6 dc6 pm6 cd6 ct6 oc7 kV7 dc7 pm7 cd7 ct7 oc8 kV8 dc8 pm8 cd8 ct8 oc9 kV9 dc9 pm9 cd9 ct9 oc10 kV10 dc10 pm10 cd10 ct10 oc11 kV11 dc11 pm11 cd11 ct11 oc12 kV12 dc12 pm12 cd12 ct12 oc13 kV13 dc13 pm13 cd13 ct13 oc14 kV14 dc14 pm14 cd14 ct14 : Value}
    {C CE CN : Addr} {gInit : Addr} {modInit manInit : Option Addr} {mslInit : Array (Option Value)} {mocInit mkVInit mdcInit mpmInit mcdInit mctInit : Value} {gFresh : Addr} {modFresh manFresh : Option Addr} {mslFresh : Array (Option Value)} {mocFresh mkVFresh mdcFresh mpmFresh mcdFresh mctFresh : Value} {gResolve : Addr} {modResolve manResolve : Option Addr} {mslResolve : Array (Option Value)} {mocResolve mkVResolve mdcResolve mpmResolve mcdResolve mctResolve : Value} {gUnify : Addr} {modUnify manUnify : Option Addr} {mslUnify : Array (Option Value)} {mocUnify mkVUnify mdcUnify mpmUnify mcdUnify mctUnify : Value} {gShown : Addr} {modShown manShown : Option Addr} {mslShown : Array (Option Value)} {mocShown mkVShown mdcShown mpmShown mcdShown mctShown : Value} {gNote : Addr} {modNote manNote : Option Addr} {mslNote : Array (Option Value)} {mocNote mkVNote mdcNote mpmNote mcdNote mctNote : Value} {gOutside : Addr} {modOutside manOutside : Option Addr} {mslOutside : Array (Option Value)} {mocOutside mkVOutside mdcOutside mpmOutside mcdOutside mctOutside : Value} 
    (a0 : PySem.W.nsIn K mainGlobals "kind_parts" = some (some (.ref f0)))
    (l0 : K.lookup f0 = some ⟨oc0, od0, .func (PySem.W.fnOf "kind_parts" "kind_parts" (defArgs sParts) (defBody sParts) (defScope sParts) .none kV0 dc0 pm0 an0 cd0 ct0), sl0⟩)
    (c0 : PySem.W.codeIn K cd0 "kind_parts" = true)
    (k0 : PySem.W.keepIn K (.ref f0) = true)
    (a1 : PySem.W.nsIn K mainGlobals "replace_leaves" = some (some (.ref f1)))
    (l1 : K.lookup f1 = some ⟨oc1, od1, .func (PySem.W.fnOf "replace_leaves" "replace_leaves" (defArgs sRepl) (defBody sRepl) (defScope sRepl) .none kV1 dc1 pm1 an1 cd1 ct1), sl1⟩)
    (c1 : PySem.W.codeIn K cd1 "replace_leaves" = true)
    (k1 : PySem.W.keepIn K (.ref f1) = true)
    (a2 : PySem.W.nsIn K mainGlobals "_with_kind_parts" = some (some (.ref f2)))
    (l2 : K.lookup f2 = some ⟨oc2, od2, .func (PySem.W.fnOf "_with_kind_parts" "_with_kind_parts" (defArgs sWith) (defBody sWith) (defScope sWith) .none kV2 dc2 pm2 an2 cd2 ct2), sl2⟩)
    (c2 : PySem.W.codeIn K cd2 "_with_kind_parts" = true)
    (k2 : PySem.W.keepIn K (.ref f2) = true)
    (a3 : PySem.W.nsIn K mainGlobals "alike" = some (some (.ref f3)))
    (l3 : K.lookup f3 = some ⟨oc3, od3, .func (PySem.W.fnOf "alike" "alike" (defArgs sAlike) (defBody sAlike) (defScope sAlike) .none kV3 dc3 pm3 an3 cd3 ct3), sl3⟩)
    (c3 : PySem.W.codeIn K cd3 "alike" = true)
    (k3 : PySem.W.keepIn K (.ref f3) = true)
    (a4 : PySem.W.nsIn K mainGlobals "_law_draws" = some (some (.ref f4)))
    (l4 : K.lookup f4 = some ⟨oc4, od4, .func (PySem.W.fnOf "_law_draws" "_law_draws" (defArgs sDraws) (defBody sDraws) (defScope sDraws) .none kV4 dc4 pm4 an4 cd4 ct4), sl4⟩)
    (c4 : PySem.W.codeIn K cd4 "_law_draws" = true)
    (k4 : PySem.W.keepIn K (.ref f4) = true)
    (a5 : PySem.W.nsIn K mainGlobals "_law_reader" = some (some (.ref f5)))
    (l5 : K.lookup f5 = some ⟨oc5, od5, .func (PySem.W.fnOf "_law_reader" "_law_reader" (defArgs sReader) (defBody sReader) (defScope sReader) .none kV5 dc5 pm5 an5 cd5 ct5), sl5⟩)
    (c5 : PySem.W.codeIn K cd5 "_law_reader" = true)
    (k5 : PySem.W.keepIn K (.ref f5) = true)
    (a6 : PySem.W.nsIn K mainGlobals "_law_next" = some (some (.ref f6)))
    (l6 : K.lookup f6 = some ⟨oc6, od6, .func (PySem.W.fnOf "_law_next" "_law_next" (defArgs sNext) (defBody sNext) (defScope sNext) .none kV6 dc6 pm6 an6 cd6 ct6), sl6⟩)
    (c6 : PySem.W.codeIn K cd6 "_law_next" = true)
    (k6 : PySem.W.keepIn K (.ref f6) = true)
    (a7 : PySem.W.nsIn K mainGlobals "_law_kind" = some (some (.ref f7)))
    (l7 : K.lookup f7 = some ⟨oc7, od7, .func (PySem.W.fnOf "_law_kind" "_law_kind" (defArgs sKind) (defBody sKind) (defScope sKind) .none kV7 dc7 pm7 an7 cd7 ct7), sl7⟩)
    (c7 : PySem.W.codeIn K cd7 "_law_kind" = true)
    (k7 : PySem.W.keepIn K (.ref f7) = true)
    (a8 : PySem.W.nsIn K mainGlobals "_law_put" = some (some (.ref f8)))
    (l8 : K.lookup f8 = some ⟨oc8, od8, .func (PySem.W.fnOf "_law_put" "_law_put" (defArgs sPut) (defBody sPut) (defScope sPut) .none kV8 dc8 pm8 an8 cd8 ct8), sl8⟩)
    (c8 : PySem.W.codeIn K cd8 "_law_put" = true)
    (k8 : PySem.W.keepIn K (.ref f8) = true)
    (a9 : PySem.W.nsIn K mainGlobals "_law_match" = some (some (.ref f9)))
    (l9 : K.lookup f9 = some ⟨oc9, od9, .func (PySem.W.fnOf "_law_match" "_law_match" (defArgs sMatch) (defBody sMatch) (defScope sMatch) .none kV9 dc9 pm9 an9 cd9 ct9), sl9⟩)
    (c9 : PySem.W.codeIn K cd9 "_law_match" = true)
    (k9 : PySem.W.keepIn K (.ref f9) = true)
    (a10 : PySem.W.nsIn K mainGlobals "_law_metas" = some (some (.ref f10)))
    (l10 : K.lookup f10 = some ⟨oc10, od10, .func (PySem.W.fnOf "_law_metas" "_law_metas" (defArgs sMetas) (defBody sMetas) (defScope sMetas) .none kV10 dc10 pm10 an10 cd10 ct10), sl10⟩)
    (c10 : PySem.W.codeIn K cd10 "_law_metas" = true)
    (k10 : PySem.W.keepIn K (.ref f10) = true)
    (a11 : PySem.W.nsIn K mainGlobals "_law_step" = some (some (.ref f11)))
    (l11 : K.lookup f11 = some ⟨oc11, od11, .func (PySem.W.fnOf "_law_step" "_law_step" (defArgs sStep) (defBody sStep) (defScope sStep) .none kV11 dc11 pm11 an11 cd11 ct11), sl11⟩)
    (c11 : PySem.W.codeIn K cd11 "_law_step" = true)
    (k11 : PySem.W.keepIn K (.ref f11) = true)
    (a12 : PySem.W.nsIn K mainGlobals "_law_solve" = some (some (.ref f12)))
    (l12 : K.lookup f12 = some ⟨oc12, od12, .func (PySem.W.fnOf "_law_solve" "_law_solve" (defArgs sSolve) (defBody sSolve) (defScope sSolve) .none kV12 dc12 pm12 an12 cd12 ct12), sl12⟩)
    (c12 : PySem.W.codeIn K cd12 "_law_solve" = true)
    (k12 : PySem.W.keepIn K (.ref f12) = true)
    (a13 : PySem.W.nsIn K mainGlobals "_law_told" = some (some (.ref f13)))
    (l13 : K.lookup f13 = some ⟨oc13, od13, .func (PySem.W.fnOf "_law_told" "_law_told" (defArgs sTold) (defBody sTold) (defScope sTold) .none kV13 dc13 pm13 an13 cd13 ct13), sl13⟩)
    (c13 : PySem.W.codeIn K cd13 "_law_told" = true)
    (k13 : PySem.W.keepIn K (.ref f13) = true)
    (a14 : PySem.W.nsIn K mainGlobals "law" = some (some (.ref f14)))
    (l14 : K.lookup f14 = some ⟨oc14, od14, .func (PySem.W.fnOf "law" "law" (defArgs sLaw) (defBody sLaw) (defScope sLaw) .none kV14 dc14 pm14 an14 cd14 ct14), sl14⟩)
    (c14 : PySem.W.codeIn K cd14 "law" = true)
    (k14 : PySem.W.keepIn K (.ref f14) = true)
    (aCl : PySem.W.nsIn K mainGlobals "Unifier" = some (some (.ref C)))
    (pg : PySem.W.plainGet K C Str.empty = true)
    (hd : PySem.W.hasDictIn K C = true)
    (po : PySem.W.plainOver K C = true)
    (sa : PySem.W.findIn K (.ref C) "__setattr__" = some (some (.builtin "object.__setattr__")))
    (mk : PySem.W.makesIn K C = true)
    (kc : PySem.W.keepIn K (.ref C) = true)
    (nM1 : PySem.W.findIn K (.ref C) "made" = some none)
    (nK1 : PySem.W.findIn K (.ref C) "known" = some none)
    (aE : PySem.W.nsIn K mainGlobals "CannotUnify" = some (some (.ref CE)))
    (aN : PySem.W.nsIn K mainGlobals "NeedError" = some (some (.ref CN)))
    (qE : PySem.W.excIn K CE [.type "ValueError", .type "Exception", .type "BaseException", .type "object"] "ValueError.__new__" = true)
    (kE : PySem.W.keepIn K (.ref CE) = true)
    (xE : PySem.W.subIn K (.ref CE) (.type "BaseException") = some true)
    (tyE : PySem.W.typeIn K (.ref CE) = some (.type "type"))
    (gaE : PySem.W.findIn K (.ref CE) "__getattribute__" = some (some (.builtin "BaseException.__getattribute__")))
    (ggE : PySem.W.findIn K (.ref CE) "__getattr__" = some none)
    (hdE : PySem.W.hasDictIn K CE = true)
    (clE : PySem.W.findIn K (.ref CE) "__class__" = some (some (.builtin "object.__class__")))
    (moE : PySem.W.mroIn K CE (.type "object") = some true)
    (sn : PySem.W.specialIn K (.builtin "object.__class__") "__get__" = some (some (.builtin "getset_descriptor.__get__")))
    (tk : PySem.W.takesIn K (.builtin "object.__class__") = some true)
    (sEE : PySem.W.subIn K (.ref CE) (.ref CE) = some true)
    (qEN : PySem.W.kitOne K (.ref CE) (.ref CN) = some true)
    (maInit : PySem.W.findIn K (.ref C) "__init__" = some (some (.ref gInit)))
    (miInit : PySem.W.isFn K (.ref gInit) = true)
    (mlInit : K.lookup gInit = some ⟨mocInit, modInit, .func (PySem.W.fnOf "__init__" "Unifier.__init__" (defArgs sInit) (defBody sInit) (defScope sInit) .none mkVInit mdcInit mpmInit manInit mcdInit mctInit), mslInit⟩)
    (mcInit : PySem.W.codeIn K mcdInit "Unifier.__init__" = true)
    (mkInit : PySem.W.keepIn K (.ref gInit) = true)
    (maFresh : PySem.W.findIn K (.ref C) "fresh" = some (some (.ref gFresh)))
    (miFresh : PySem.W.isFn K (.ref gFresh) = true)
    (mlFresh : K.lookup gFresh = some ⟨mocFresh, modFresh, .func (PySem.W.fnOf "fresh" "Unifier.fresh" (defArgs sFresh) (defBody sFresh) (defScope sFresh) .none mkVFresh mdcFresh mpmFresh manFresh mcdFresh mctFresh), mslFresh⟩)
    (mcFresh : PySem.W.codeIn K mcdFresh "Unifier.fresh" = true)
    (mkFresh : PySem.W.keepIn K (.ref gFresh) = true)
    (maResolve : PySem.W.findIn K (.ref C) "resolve" = some (some (.ref gResolve)))
    (miResolve : PySem.W.isFn K (.ref gResolve) = true)
    (mlResolve : K.lookup gResolve = some ⟨mocResolve, modResolve, .func (PySem.W.fnOf "resolve" "Unifier.resolve" (defArgs sResolve) (defBody sResolve) (defScope sResolve) .none mkVResolve mdcResolve mpmResolve manResolve mcdResolve mctResolve), mslResolve⟩)
    (mcResolve : PySem.W.codeIn K mcdResolve "Unifier.resolve" = true)
    (mkResolve : PySem.W.keepIn K (.ref gResolve) = true)
    (maUnify : PySem.W.findIn K (.ref C) "unify" = some (some (.ref gUnify)))
    (miUnify : PySem.W.isFn K (.ref gUnify) = true)
    (mlUnify : K.lookup gUnify = some ⟨mocUnify, modUnify, .func (PySem.W.fnOf "unify" "Unifier.unify" (defArgs sUnify) (defBody sUnify) (defScope sUnify) .none mkVUnify mdcUnify mpmUnify manUnify mcdUnify mctUnify), mslUnify⟩)
    (mcUnify : PySem.W.codeIn K mcdUnify "Unifier.unify" = true)
    (mkUnify : PySem.W.keepIn K (.ref gUnify) = true)
    (maShown : PySem.W.findIn K (.ref C) "shown" = some (some (.ref gShown)))
    (miShown : PySem.W.isFn K (.ref gShown) = true)
    (mlShown : K.lookup gShown = some ⟨mocShown, modShown, .func (PySem.W.fnOf "shown" "Unifier.shown" (defArgs sShown) (defBody sShown) (defScope sShown) .none mkVShown mdcShown mpmShown manShown mcdShown mctShown), mslShown⟩)
    (mcShown : PySem.W.codeIn K mcdShown "Unifier.shown" = true)
    (mkShown : PySem.W.keepIn K (.ref gShown) = true)
    (maNote : PySem.W.findIn K (.ref C) "note" = some (some (.ref gNote)))
    (miNote : PySem.W.isFn K (.ref gNote) = true)
    (mlNote : K.lookup gNote = some ⟨mocNote, modNote, .func (PySem.W.fnOf "note" "Unifier.note" (defArgs sNote) (defBody sNote) (defScope sNote) .none mkVNote mdcNote mpmNote manNote mcdNote mctNote), mslNote⟩)
    (mcNote : PySem.W.codeIn K mcdNote "Unifier.note" = true)
    (mkNote : PySem.W.keepIn K (.ref gNote) = true)
    (maOutside : PySem.W.findIn K (.ref C) "check_outside" = some (some (.ref gOutside)))
    (miOutside : PySem.W.isFn K (.ref gOutside) = true)
    (mlOutside : K.lookup gOutside = some ⟨mocOutside, modOutside, .func (PySem.W.fnOf "check_outside" "Unifier.check_outside" (defArgs sOutside) (defBody sOutside) (defScope sOutside) .none mkVOutside mdcOutside mpmOutside manOutside mcdOutside mctOutside), mslOutside⟩)
    (mcOutside : PySem.W.codeIn K mcdOutside "Unifier.check_outside" = true)
    (mkOutside : PySem.W.keepIn K (.ref gOutside) = true)
    (zlen : PySem.W.nsIn K mainGlobals "len" = some none)
    (zmin : PySem.W.nsIn K mainGlobals "min" = some none)
    (zint : PySem.W.nsIn K mainGlobals "int" = some none)
    (zrange : PySem.W.nsIn K mainGlobals "range" = some none)
    (zabs : PySem.W.nsIn K mainGlobals "abs" = some none)
    (ztuple : PySem.W.nsIn K mainGlobals "tuple" = some none)
    (zlist : PySem.W.nsIn K mainGlobals "list" = some none)
    (zzip : PySem.W.nsIn K mainGlobals "zip" = some none)
    (zisinstance : PySem.W.nsIn K mainGlobals "isinstance" = some none) :
    ∃ fd : FuncData, (∀ (s : Shared) (v : Value), BindsTo s fd ⟨[v], []⟩ [("script", v)]) ∧ ∀ base : Heap, K.In base → base.Ns mainGlobals mg → FnOk l.prog w K mg base CX0 20 fa fd ["script"] (spLaw K) := by
  have e := hfa.symm.trans (PySem.W.mg_of X G a14)
  cases e
  have nlen := PySem.W.mg_none_of X G zlen
  have nmin := PySem.W.mg_none_of X G zmin
  have nint := PySem.W.mg_none_of X G zint
  have nrange := PySem.W.mg_none_of X G zrange
  have nabs := PySem.W.mg_none_of X G zabs
  have ntuple := PySem.W.mg_none_of X G ztuple
  have nlist := PySem.W.mg_none_of X G zlist
  have nzip := PySem.W.mg_none_of X G zzip
  have nisinstance := PySem.W.mg_none_of X G zisinstance
  have FParts := fun_mk (st := sParts) l0 c0 k0
  have bParts := FParts.binds (ps := ["kind"]) fun _ _ _ _ _ _ us hl => match us, hl with | [_], _ => rfl
  have mParts := PySem.W.mg_of X G a0
  have FRepl := fun_mk (st := sRepl) l1 c1 k1
  have bRepl := FRepl.binds (ps := ["kind", "word", "types", "again"]) fun _ _ _ _ _ _ us hl => match us, hl with | [_, _, _, _], _ => rfl
  have mRepl := PySem.W.mg_of X G a1
  have FWith := fun_mk (st := sWith) l2 c2 k2
  have bWith := FWith.binds (ps := ["kind", "parts"]) fun _ _ _ _ _ _ us hl => match us, hl with | [_, _], _ => rfl
  have mWith := PySem.W.mg_of X G a2
  have FAlike := fun_mk (st := sAlike) l3 c3 k3
  have bAlike := FAlike.binds (ps := ["one", "other"]) fun _ _ _ _ _ _ us hl => match us, hl with | [_, _], _ => rfl
  have mAlike := PySem.W.mg_of X G a3
  have FDraws := fun_mk (st := sDraws) l4 c4 k4
  have bDraws := FDraws.binds (ps := ["script"]) fun _ _ _ _ _ _ us hl => match us, hl with | [_], _ => rfl
  have mDraws := PySem.W.mg_of X G a4
  have FReader := fun_mk (st := sReader) l5 c5 k5
  have bReader := FReader.binds (ps := ["script"]) fun _ _ _ _ _ _ us hl => match us, hl with | [_], _ => rfl
  have mReader := PySem.W.mg_of X G a5
  have FNext := fun_mk (st := sNext) l6 c6 k6
  have bNext := FNext.binds (ps := ["draws", "many"]) fun _ _ _ _ _ _ us hl => match us, hl with | [_, _], _ => rfl
  have mNext := PySem.W.mg_of X G a6
  have FKind := fun_mk (st := sKind) l7 c7 k7
  have bKind := FKind.binds (ps := ["draws", "depth", "metas"]) fun _ _ _ _ _ _ us hl => match us, hl with | [_, _, _], _ => rfl
  have mKind := PySem.W.mg_of X G a7
  have FPut := fun_mk (st := sPut) l8 c8 k8
  have bPut := FPut.binds (ps := ["kind", "table"]) fun _ _ _ _ _ _ us hl => match us, hl with | [_, _], _ => rfl
  have mPut := PySem.W.mg_of X G a8
  have FMatch := fun_mk (st := sMatch) l9 c9 k9
  have bMatch := FMatch.binds (ps := ["pattern", "kind", "word", "found"]) fun _ _ _ _ _ _ us hl => match us, hl with | [_, _, _, _], _ => rfl
  have mMatch := PySem.W.mg_of X G a9
  have FMetas := fun_mk (st := sMetas) l10 c10 k10
  have bMetas := FMetas.binds (ps := ["kind"]) fun _ _ _ _ _ _ us hl => match us, hl with | [_], _ => rfl
  have mMetas := PySem.W.mg_of X G a10
  have FStep := fun_mk (st := sStep) l11 c11 k11
  have bStep := FStep.binds (ps := ["pairs", "one", "other"]) fun _ _ _ _ _ _ us hl => match us, hl with | [_, _, _], _ => rfl
  have mStep := PySem.W.mg_of X G a11
  have FSolve := fun_mk (st := sSolve) l12 c12 k12
  have bSolve := FSolve.binds (ps := ["table", "one", "other"]) fun _ _ _ _ _ _ us hl => match us, hl with | [_, _, _], _ => rfl
  have mSolve := PySem.W.mg_of X G a12
  have FTold := fun_mk (st := sTold) l13 c13 k13
  have bTold := FTold.binds (ps := ["unifier", "one", "other"]) fun _ _ _ _ _ _ us hl => match us, hl with | [_, _, _], _ => rfl
  have mTold := PySem.W.mg_of X G a13
  have FLaw := fun_mk (st := sLaw) l14 c14 k14
  have bLaw := FLaw.binds (ps := ["script"]) fun _ _ _ _ _ _ us hl => match us, hl with | [_], _ => rfl
  have mLaw := PySem.W.mg_of X G a14
  refine ⟨PySem.W.fnOf "law" "law" (defArgs sLaw) (defBody sLaw) (defScope sLaw) .none kV14 dc14 pm14 an14 cd14 ct14, fun s v => .of_eq rfl, fun base _ _ => ?_⟩
  have FInit := fun_mk (st := sInit) mlInit mcInit mkInit
  have bInit := FInit.binds (ps := ["self"]) fun _ _ _ _ _ _ us hl => match us, hl with | [_], _ => rfl
  have eInit : Meth K C "__init__" gInit := ⟨maInit, miInit, mkInit⟩
  have FFresh := fun_mk (st := sFresh) mlFresh mcFresh mkFresh
  have bFresh := FFresh.binds (ps := ["self"]) fun _ _ _ _ _ _ us hl => match us, hl with | [_], _ => rfl
  have eFresh : Meth K C "fresh" gFresh := ⟨maFresh, miFresh, mkFresh⟩
  have FResolve := fun_mk (st := sResolve) mlResolve mcResolve mkResolve
  have bResolve := FResolve.binds (ps := ["self", "kind"]) fun _ _ _ _ _ _ us hl => match us, hl with | [_, _], _ => rfl
  have eResolve : Meth K C "resolve" gResolve := ⟨maResolve, miResolve, mkResolve⟩
  have FUnify := fun_mk (st := sUnify) mlUnify mcUnify mkUnify
  have bUnify := FUnify.binds (ps := ["self", "one", "other"]) fun _ _ _ _ _ _ us hl => match us, hl with | [_, _, _], _ => rfl
  have eUnify : Meth K C "unify" gUnify := ⟨maUnify, miUnify, mkUnify⟩
  have FShown := fun_mk (st := sShown) mlShown mcShown mkShown
  have bShown := FShown.binds (ps := ["self", "kind"]) fun _ _ _ _ _ _ us hl => match us, hl with | [_, _], _ => rfl
  have eShown : Meth K C "shown" gShown := ⟨maShown, miShown, mkShown⟩
  have FNote := fun_mk (st := sNote) mlNote mcNote mkNote
  have bNote := FNote.binds (ps := ["self", "number", "kind"]) fun _ _ _ _ _ _ us hl => match us, hl with | [_, _, _], _ => rfl
  have eNote : Meth K C "note" gNote := ⟨maNote, miNote, mkNote⟩
  have FOutside := fun_mk (st := sOutside) mlOutside mcOutside mkOutside
  have bOutside := FOutside.binds (ps := ["self", "number", "kind"]) fun _ _ _ _ _ _ us hl => match us, hl with | [_, _, _], _ => rfl
  have eOutside : Meth K C "check_outside" gOutside := ⟨maOutside, miOutside, mkOutside⟩
  have TD : TxtD mg := ⟨nlen, nmin, nint, nrange, nabs⟩
  have T : TxtT mg := ⟨ntuple, nlist, nzip, nlen⟩
  have TU : TxtU K mg C := ⟨nlist, nzip, ⟨pg, hd, po, sa⟩, nM1, nK1⟩
  have TR : TxtR mg := ⟨nlen, nrange⟩
  have TV : TxtV mg := ⟨nlen, nrange⟩
  have RE : ErrU K mg CE := ⟨PySem.W.mg_of X G aE, qE, kE, xE, tyE⟩
  have HN : HandU K mg CE CN := ⟨PySem.W.mg_of X G aN, nisinstance, PySem.W.exm_ref xE hdE tyE sEE, qEN, ⟨gaE, ggE, xE, hdE, clE, sn, tk, moE⟩⟩
  have Cparts := c_parts (P := l.prog) (w := w) (base := base) FParts bParts mParts
  have Calike := c_alike (P := l.prog) (w := w) (base := base) T Cparts FAlike bAlike mAlike
  have Cwith := c_with (P := l.prog) (w := w) (base := base) T FWith bWith mWith
  have Crepl := c_repl (P := l.prog) (w := w) (base := base) T Cparts Cwith FRepl bRepl mRepl
  have Cshown := c_shown (P := l.prog) (w := w) (base := base) TU eShown FShown bShown
  have Coutside := c_outside (P := l.prog) (w := w) (base := base) TU RE Cparts eOutside FOutside bOutside
  have Cnote := c_note (P := l.prog) (w := w) (base := base) TU Coutside eNote FNote bNote
  have Cunify := c_unify (P := l.prog) (w := w) (base := base) TU RE Cshown Cnote Calike Cparts eUnify FUnify bUnify
  have Cresolve := c_resolve (P := l.prog) (w := w) (base := base) TU Crepl eResolve FResolve bResolve
  have Cfresh := c_fresh (P := l.prog) (w := w) (base := base) TU eFresh FFresh bFresh
  have Cmake := c_init (P := l.prog) (w := w) (base := base) TU ⟨mk, maInit, miInit, kc⟩ (PySem.W.mg_of X G aCl) FInit bInit
  have Cdraws := c_draws (P := l.prog) (w := w) (base := base) TD FDraws bDraws mDraws
  have Creader := c_reader (P := l.prog) (w := w) (base := base) TD Cdraws FReader bReader mReader
  have Cnext := c_next (P := l.prog) (w := w) (base := base) TD FNext bNext mNext
  have Ckind := c_kind (P := l.prog) (w := w) (base := base) TD Cnext FKind bKind mKind 3
  have Cput := c_put (P := l.prog) (w := w) (base := base) T FPut bPut mPut 16
  have Cmatch := c_match (P := l.prog) (w := w) (base := base) TR FMatch bMatch mMatch 16
  have Cmetas := c_metas (P := l.prog) (w := w) (base := base) T FMetas bMetas mMetas 16
  have Cstep := c_step (P := l.prog) (w := w) (base := base) TV FStep bStep mStep
  have Csolve := c_solve (P := l.prog) (w := w) (base := base) TV Cput Cmetas Cstep FSolve bSolve mSolve
  have Ctold := c_told (P := l.prog) (w := w) (base := base) RE HN Cunify FTold bTold mTold
  exact c_law TV Creader Cnext Ckind Cput Cmatch Csolve Ctold Cmake Cfresh Cresolve FLaw
theorem walk {l : PySem.W.OpenLaw} {q : Program} {loose : List Str} {XP : (Str → Option Value) → Heap → Prop} {YP : World → Heap → Prop} {d : DefRec} {K : Params → PySem.W.Frag} (hn : l.most = some 63) (hdf : d.params.defaults = [])
    (hY : ∀ (w : World) (h : Heap), YP w h → (K w.params).In h)
    (F : ∀ (w : World) (mg : Str → Option Value) (fa : Addr) (h : Heap), (K w.params).In h → h.Ns mainGlobals mg → mg d.name = some (.ref fa) →
      ∃ fd : FuncData, (∀ (s : Shared) (u : Value), BindsTo s fd ⟨[u], []⟩ [("script", u)]) ∧ ∀ base : Heap, (K w.params).In base → base.Ns mainGlobals mg → FnOk l.prog w (K w.params) mg base CX0 20 fa fd ["script"] (spLaw (K w.params))) :
    PySem.W.WalkO q loose XP YP l.row.toRowW d [] (fun f vs => PySem.call f vs) :=
  L2.walk_of (n := 63) (k := 20) (x := "script") (CX := fun _ => CX0) (sp := fun w => spLaw (K w.params)) hn (by decide) hdf ⟨rfl, by decide, by decide⟩ hY F (fun _ _ a ns hl _ hS => ⟨a, ns, rfl, hS, hl, fun _ => rfl⟩) fun _ _ _ _ _ z => z
end Toy
open PySem PySem.W PyProof.Rows
set_option maxRecDepth 100000 in
set_option maxHeartbeats 0 in
theorem PySem.Challenge.cw_needonce_k26_types_that_cannot_be_equal_holds : PySem.Challenge.rw_needonce_k26_types_that_cannot_be_equal.Holds := by
  w_on; o_law; k_head; (case hw => w_witness2)
  k_fill
  refine Toy.walk (l := PySem.Challenge.rw_needonce_k26_types_that_cannot_be_equal) rfl rfl (fun w h Y => PySem.W.kIn_of Y) ?F
  case F =>
    intro w mg fa h KX G hmg
    refine' Toy.all_mk KX G hmg ?a0 ?l0 ?c0 ?k0 ?a1 ?l1 ?c1 ?k1 ?a2 ?l2 ?c2 ?k2 ?a3 ?l3 ?c3 ?k3 ?a4 ?l4 ?c4 ?k4 ?a5 ?l5 ?c5 ?k5 ?a6 ?l6 ?c6 ?k6 ?a7 ?l7 ?c7 ?k7 ?a8 ?l8 ?c8 ?k8 ?a9 ?l9 ?c9 ?k9 ?a10 ?l10 ?c10 ?k10 ?a11 ?l11 ?c11 ?k11 ?a12 ?l12 ?c12 ?k12 ?a13 ?l13 ?c13 ?k13 ?a14 ?l14 ?c14 ?k14 ?aCl ?pg ?hd ?po ?sa ?mk ?kc ?nM1 ?nK1 ?aE ?aN ?qE ?kE ?xE ?tyE ?gaE ?ggE ?hdE ?clE ?moE ?sn ?tk ?sEE ?qEN ?maInit ?miInit ?mlInit ?mcInit ?mkInit ?maFresh ?miFresh ?mlFresh ?mcFresh ?mkFresh ?maResolve ?miResolve ?mlResolve ?mcResolve ?mkResolve ?maUnify ?miUnify ?mlUnify ?mcUnify ?mkUnify ?maShown ?miShown ?mlShown ?mcShown ?mkShown ?maNote ?miNote ?mlNote ?mcNote ?mkNote ?maOutside ?miOutside ?mlOutside ?mcOutside ?mkOutside ?zlen ?zmin ?zint ?zrange ?zabs ?ztuple ?zlist ?zzip ?zisinstance
    (case a0 => k_is)
    (case l0 => k_is)
    (case c0 => k_is)
    (case k0 => k_is)
    (case a1 => k_is)
    (case l1 => k_is)
    (case c1 => k_is)
    (case k1 => k_is)
    (case a2 => k_is)
    (case l2 => k_is)
    (case c2 => k_is)
    (case k2 => k_is)
    (case a3 => k_is)
    (case l3 => k_is)
    (case c3 => k_is)
    (case k3 => k_is)
    (case a4 => k_is)
    (case l4 => k_is)
    (case c4 => k_is)
    (case k4 => k_is)
    (case a5 => k_is)
    (case l5 => k_is)
    (case c5 => k_is)
    (case k5 => k_is)
    (case a6 => k_is)
    (case l6 => k_is)
    (case c6 => k_is)
    (case k6 => k_is)
    (case a7 => k_is)
    (case l7 => k_is)
    (case c7 => k_is)
    (case k7 => k_is)
    (case a8 => k_is)
    (case l8 => k_is)
    (case c8 => k_is)
    (case k8 => k_is)
    (case a9 => k_is)
    (case l9 => k_is)
    (case c9 => k_is)
    (case k9 => k_is)
    (case a10 => k_is)
    (case l10 => k_is)
    (case c10 => k_is)
    (case k10 => k_is)
    (case a11 => k_is)
    (case l11 => k_is)
    (case c11 => k_is)
    (case k11 => k_is)
    (case a12 => k_is)
    (case l12 => k_is)
    (case c12 => k_is)
    (case k12 => k_is)
    (case a13 => k_is)
    (case l13 => k_is)
    (case c13 => k_is)
    (case k13 => k_is)
    (case a14 => k_is)
    (case l14 => k_is)
    (case c14 => k_is)
    (case k14 => k_is)
    (case aCl => k_is)
    (case pg => k_is)
    (case hd => k_is)
    (case po => k_is)
    (case sa => k_is)
    (case mk => k_is)
    (case kc => k_is)
    (case nM1 => k_is)
    (case nK1 => k_is)
    (case aE => k_is)
    (case aN => k_is)
    (case qE => k_exc)
    (case kE => k_is)
    (case xE => k_is)
    (case tyE => k_is)
    (case gaE => k_is)
    (case ggE => k_is)
    (case hdE => k_is)
    (case clE => k_is)
    (case moE => k_is)
    (case sn => k_is)
    (case tk => k_is)
    (case sEE => first | k_is | rfl)
    (case qEN => first | k_is | kit_is)
    (case maInit => k_is)
    (case miInit => k_is)
    (case mlInit => k_is)
    (case mcInit => k_is)
    (case mkInit => k_is)
    (case maFresh => k_is)
    (case miFresh => k_is)
    (case mlFresh => k_is)
    (case mcFresh => k_is)
    (case mkFresh => k_is)
    (case maResolve => k_is)
    (case miResolve => k_is)
    (case mlResolve => k_is)
    (case mcResolve => k_is)
    (case mkResolve => k_is)
    (case maUnify => k_is)
    (case miUnify => k_is)
    (case mlUnify => k_is)
    (case mcUnify => k_is)
    (case mkUnify => k_is)
    (case maShown => k_is)
    (case miShown => k_is)
    (case mlShown => k_is)
    (case mcShown => k_is)
    (case mkShown => k_is)
    (case maNote => k_is)
    (case miNote => k_is)
    (case mlNote => k_is)
    (case mcNote => k_is)
    (case mkNote => k_is)
    (case maOutside => k_is)
    (case miOutside => k_is)
    (case mlOutside => k_is)
    (case mcOutside => k_is)
    (case mkOutside => k_is)
    (case zlen => k_is)
    (case zmin => k_is)
    (case zint => k_is)
    (case zrange => k_is)
    (case zabs => k_is)
    (case ztuple => k_is)
    (case zlist => k_is)
    (case zzip => k_is)
    (case zisinstance => k_is)

