import PyProof.Rows.All
import Wide.All
import OpenK.AllK
import Wide.FinOn
import HandS.ForMost
import HandS.IsInst
import KE.OsScanText
import HandS.Codes
import HandS.Conv
import HandS.StrMore
import KE.KStrWords
import KE.KxText
import HandS.SortInts
import HandS.More
import HandS.DictComp
import HandS.CallLocal
import HandS.NoneIn
import HandS.TupAny
import HandS.Star
import PyProof.StrOps2
import HandS.Iter
import KE.GoesMore
import KE.GoesEnum
import PySem.Challenge.RW_needonce_k61_names_that_are_nowhere
import KE.KRevSl
import HandS.Comp
import PyProof.Rows.SortShellAny
import HandS.Zip
import HandS.Zip0
import HandS.ListItems
import KE.KDictZip
import HandS.Exc
import HandS.ExcOwn
import HandS.ExcInit
import HandS.ExcField
import HandS.ExcIs
import HandS.ClsMeth
import HandS.TryMany
import HandS.WordsExc
import HandS.FStr
import KE.KExcIs
import HandS.Style
set_option Elab.async false
set_option maxRecDepth 100000
set_option maxHeartbeats 4000000
/-! Part A: how defs are called, the drawing of numbers from the script. -/
namespace Toy
open PySem L2
open PyProof.Rows (envOfC)
def topS (i : Nat) : Stmt := PySem.Challenge.pw_needonce_k61_names_that_are_nowhere.main.body.getD i (.Pass ⟨0, 0, 0, 0⟩)
theorem boot_min : bootBuiltins "min" = some (.builtin "min") := by decide +kernel
theorem boot_isinstance : bootBuiltins "isinstance" = some (.builtin "isinstance") := by decide +kernel
theorem boot_abs : bootBuiltins "abs" = some (.builtin "abs") := by decide +kernel
theorem boot_int : bootBuiltins "int" = some (.type "int") := by decide +kernel
theorem boot_list : bootBuiltins "list" = some (.type "list") := by decide +kernel
/-- a written row of texts: what it is -/
def tStrs (zs : List Str) : TA := fun _ H Q => Q (zs.map V.str) H
def strE : Expr → Option Str
  | .Constant (.str z) _ _ => some z
  | _ => none
theorem strE_is {e : Expr} {z : Str} (h : strE e = some z) : ∃ j pos, e = .Constant (.str z) j pos := by
  unfold strE at h
  split at h
  · cases h
    exact ⟨_, _, rfl⟩
  · cases h
/-- a written row of texts -/
theorem pa_strs {X : Cx} : ∀ {es : List Expr} {zs : List Str}, es.map strE = zs.map some → PA X es (tStrs zs)
  | [], [], _ => pa_nil
  | [], _ :: _, h => by cases h
  | _ :: _, [], h => by cases h
  | e :: es, z :: zs, h => by
    rw [List.map_cons, List.map_cons] at h
    obtain ⟨h1, h2⟩ := List.cons.inj h
    obtain ⟨j, pos, rfl⟩ := strE_is h1
    exact pa_cons pe_str (pa_strs h2)
theorem strs_read {zs : List Str} {σ : L2.St} {H : Hp} {Q : List V → Hp → Prop} (h : Q (zs.map V.str) H) : tStrs zs σ H Q := h
/-- what the proofs ask of the module's names -/
structure TxtD (mg : Str → Option Value) : Prop where
  zlen : mg "len" = none
  zint : mg "int" = none
  zrange : mg "range" = none
  zabs : mg "abs" = none
section
variable {P : Program} {w : World} {K : PySem.W.Frag} {mg : Str → Option Value} {base : Heap} 
/-- a def as one that may be called by its name -/
theorem cal_of {x : Str} {st : Stmt} {f : Addr} {fd : FuncData} {N ps : List Str} {k : Nat} {sp : Sp} (F : Fun K x x st f fd) (hm : mg x = some (.ref f)) (b : Binds K fd ps []) (S : FnScope N ps (defScope st)) (len : ∀ vs H Q E, sp vs H Q E → vs.length = ps.length)
    (hbody : ∀ (cdv : Value) (A : Around) (outer : List Env) (s : Shared) (H : Hp) (vs : List V) (Q : VK) (E : XK), Room k (A.deeper (envOfC x (defScope st) s.heap.objs.size f cdv)) → sp vs H Q E →
      ∃ t, PSs (cxOf CX0 P w K mg base N x (defScope st) f cdv A outer s H E).nox (defBody st) t ∧ t { nx := fun _ H' => Q .non H', rt := Q } (start N vs) H) : C8.Cal P w K mg base (k + 1) x sp [] :=
  ⟨f, fd, ps, [], F.ok S len hbody, hm, F.kp, b, .nil⟩
theorem same_new {H : Hp} {p : Addr} (h : H p = none) (o : HO) : Same H (upd H p o) := fun b u q => by rw [upd_ne (ne_of_none q h)]; exact q
theorem same_upd {H H' : Hp} {p : Addr} (h : H p = none) (s : Same H H') (o : HO) : Same H (upd H' p o) := fun b u q => by rw [upd_ne (ne_of_none q h)]; exact s b u q
theorem szl {n : Nat} (h : n ≤ 100000) : n < sizeLine := Nat.lt_of_le_of_lt h (by decide)
theorem at_ok {α : Type} {xs : List α} {k : Nat} (h : k < xs.length) : atI xs (0 + (k : Int)) = some xs[k] := by
  rw [Int.zero_add]
  exact atI_nat (List.getElem?_eq_getElem h)
theorem at_int {ns : List Int} {i : Int} (h0 : 0 ≤ i) (h1 : i < (ns.length : Int)) : ∃ v : Int, atI (ns.map V.int) i = some (.int v) := by
  have hk : i.toNat < ns.length := by omega
  refine ⟨ns[i.toNat], ?_⟩
  have q : atI (ns.map V.int) ((i.toNat : Nat) : Int) = some (.int ns[i.toNat]) := atI_nat (by rw [List.getElem?_map, List.getElem?_eq_getElem hk] <;> rfl)
  rw [show ((i.toNat : Nat) : Int) = i by omega] at q
  exact q

/-! ### the draws of a script -/
def dk3 (r : Addr) (i f : Int) : List (Key × V) := [(Sum.inr "draws", .ref r), (Sum.inr "at", .int i), (Sum.inr "fresh", .int f)]
theorem nk_da : ¬ (Sum.inr ("draws" : Str) : Key) = Sum.inr ("at" : Str) := by decide +kernel
theorem nk_df : ¬ (Sum.inr ("draws" : Str) : Key) = Sum.inr ("fresh" : Str) := by decide +kernel
theorem nk_af : ¬ (Sum.inr ("at" : Str) : Key) = Sum.inr ("fresh" : Str) := by decide +kernel
theorem dk_draws (r : Addr) (i f : Int) : valV (dk3 r i f) (Sum.inr "draws" : Key) = some (.ref r) := valV_pos rfl
theorem dk_at (r : Addr) (i f : Int) : valV (dk3 r i f) (Sum.inr "at" : Key) = some (.int i) := (valV_neg nk_da).trans (valV_pos rfl)
theorem dk_fresh (r : Addr) (i f : Int) : valV (dk3 r i f) (Sum.inr "fresh" : Key) = some (.int f) := (valV_neg nk_df).trans ((valV_neg nk_af).trans (valV_pos rfl))
theorem dk_put (r : Addr) (i j f : Int) : putK (dk3 r i f) (Sum.inr "at" : Key) (.int j) = dk3 r j f := by
  have h1 : ¬ ("draws" : Str) = "at" := by decide +kernel
  have h2 : ¬ ("fresh" : Str) = "at" := by decide +kernel
  simp [putK, dk3, h1, h2]
theorem dk_putf (r : Addr) (i j f : Int) : putK (dk3 r i f) (Sum.inr "fresh" : Key) (.int j) = dk3 r i j := by
  have h1 : ¬ ("draws" : Str) = "fresh" := by decide +kernel
  have h2 : ¬ ("at" : Str) = "fresh" := by decide +kernel
  simp [putK, dk3, h1, h2]
theorem dk_merge (r : Addr) : mergeK [] [(Sum.inr "draws", .ref r), (Sum.inr "at", .int 0), (Sum.inr "fresh", .int 0)] = dk3 r 0 0 := by
  have h1 : ¬ ("draws" : Str) = "at" := by decide +kernel
  have h2 : ¬ ("draws" : Str) = "fresh" := by decide +kernel
  have h3 : ¬ ("at" : Str) = "fresh" := by decide +kernel
  simp [mergeK, putK, dk3, h1, h2, h3]
/-- a reader of draws stands at p; at most B new names were given -/
def DrawsAt (H : Hp) (p r : Addr) (B : Nat) : Prop := ∃ (row : List Int) (i : Nat) (f : Int), H p = some (.dK (dk3 r (i : Int) f)) ∧ H r = some (.lst (row.map V.int)) ∧ 0 ≤ f ∧ f ≤ (B : Int)
theorem DrawsAt.same {H H' : Hp} {p r : Addr} {B : Nat} (d : DrawsAt H p r B) (s : Same H H') : DrawsAt H' p r B := by
  obtain ⟨row, i, f, h1, h2, h3⟩ := d
  exact ⟨row, i, f, s _ _ h1, s _ _ h2, h3⟩
theorem DrawsAt.more {H : Hp} {p r : Addr} {B C : Nat} (d : DrawsAt H p r B) (h : B ≤ C) : DrawsAt H p r C := by
  obtain ⟨row, i, f, h1, h2, h3, h4⟩ := d
  exact ⟨row, i, f, h1, h2, h3, by omega⟩
theorem DrawsAt.fresh {H : Hp} {p r x : Addr} {B : Nat} (d : DrawsAt H p r B) (hx : H x = none) : x ≠ p ∧ x ≠ r := by
  obtain ⟨row, i, f, h1, h2, _⟩ := d
  exact ⟨fun e => (by rw [e, h1] at hx; cases hx), fun e => (by rw [e, h2] at hx; cases hx)⟩
theorem DrawsAt.off {H : Hp} {p r x : Addr} {B : Nat} (d : DrawsAt H p r B) (h1 : x ≠ p) (h2 : x ≠ r) (o : HO) : DrawsAt (upd H x o) p r B := by
  obtain ⟨row, i, f, g1, g2, g3⟩ := d
  exact ⟨row, i, f, by rw [upd_ne h1.symm]; exact g1, by rw [upd_ne h2.symm]; exact g2, g3⟩
/-- all but p stays -/
def Keep (p : Addr) (H H' : Hp) : Prop := ∀ b o, b ≠ p → H b = some o → H' b = some o
abbrev sNext : Stmt := topS 49
theorem scNext : FnScope ["w", "many"] ["w", "many"] (defScope sNext) := ⟨rfl, rfl, rfl, by decide +kernel, rfl, by decide +kernel, by decide +kernel⟩
/-- some number below m; the reader moves on -/
def spNext : Sp := fun vs H Q _ => ∃ (p r : Addr) (m : Int) (B : Nat), vs = [.ref p, .int m] ∧ 0 < m ∧ DrawsAt H p r B ∧ ∀ (n : Int) (H' : Hp), 0 ≤ n → n < m → Keep p H H' → DrawsAt H' p r B → Q (.int n) H'
theorem c_next {f : Addr} {fd : FuncData} (T : TxtD mg) (F : Fun K "_law_next" "_law_next" sNext f fd) (b : Binds K fd ["w", "many"] []) (hm : mg "_law_next" = some (.ref f)) : C8.Cal P w K mg base 2 "_law_next" spNext [] := by
  refine cal_of F hm b scNext (fun vs H Q E h => ?_) (fun cdv A outer s H vs Q E hr h => ?_)
  · obtain ⟨p, r, m, B, rfl, _⟩ := h
    rfl
  obtain ⟨p, r, m, B, rfl, hm0, ⟨row, i, f0, hp, hrow, hf0, hf1⟩, q⟩ := h
  have hu := hu_of hr
  have npr : r ≠ p := ne_of hrow hp (by intro z; cases z)
  refine ⟨_, (pss_cons (ps_daug hu (pv 0) pe_str pe_int ip_add (fun _ _ _ => rfl))
    (pss_cons (ps_if (pt_cmpR op_gt (pe_dget hu (pv 0) pe_str (fun _ _ => rfl)) (pe_callB call_len_seq rfl T.zlen PySem.boot_len (pa_cons (pe_dget hu (pv 0) pe_str (fun _ _ => rfl)) pa_nil)) (nomark _))
      (pss_one (ps_ret pe_int))
      pss_nil)
    (pss_one (ps_ret (pe_op op_mod (pe_callTy call_int1 rfl T.zint boot_int (pa_cons (pe_ix ix_list (pe_dget hu (pv 0) pe_str (fun _ _ => rfl)) (pe_op op_sub (pe_dget hu (pv 0) pe_str (fun _ _ => rfl)) pe_int) (fun _ _ => rfl)) pa_nil)) (pv 1)))))), ?_⟩
  refine ⟨_, rfl, p, _, rfl, (dk_at r _ _ ▸ DGet.k (k := Sum.inr "at") hp), ?_⟩
  refine ⟨_, _, rfl, rfl, _, DPut.k (k := Sum.inr "at") hp (by show 3 < sizeLine; decide), ?_⟩
  rw [dk_put]
  have hp2 : upd H p (.dK (dk3 r ((i : Int) + 1) f0)) p = some (.dK (dk3 r ((i : Int) + 1) f0)) := upd_same
  have hr2 : upd H p (.dK (dk3 r ((i : Int) + 1) f0)) r = some (.lst (row.map V.int)) := by rw [upd_ne npr]; exact hrow
  have fin : ∀ n : Int, 0 ≤ n → n < m → Q (.int n) (upd H p (.dK (dk3 r ((i : Int) + 1) f0))) := fun n h0 h1 =>
    q n _ h0 h1 (fun b o hb e => by rw [upd_ne hb]; exact e) ⟨row, i + 1, f0, by rw [upd_same]; rfl, hr2, hf0, hf1⟩
  refine ⟨_, rfl, p, _, rfl, (dk_at r _ _ ▸ DGet.k (k := Sum.inr "at") hp2), _, rfl, p, _, rfl, (dk_draws r _ _ ▸ DGet.k (k := Sum.inr "draws") hp2), r, _, rfl, .inl (SqL.of hr2), _, _, rfl, rfl, _, rfl, ?_⟩
  refine ite2 (fun c => ?_) (fun c => ?_)
  · exact fin 0 (by omega) hm0
  · have c' : ¬ (i : Int) + 1 > (((row.map V.int).length : Nat) : Int) := fun z => c (decide_eq_true z)
    rw [List.length_map] at c'
    obtain ⟨v, hv⟩ := at_int (ns := row) (i := (i : Int) + 1 - 1) (by omega) (by omega)
    refine ⟨_, rfl, p, _, rfl, (dk_draws r _ _ ▸ DGet.k (k := Sum.inr "draws") hp2), _, rfl, p, _, rfl, (dk_at r _ _ ▸ DGet.k (k := Sum.inr "at") hp2), _, _, rfl, rfl, r, _, _, _, rfl, rfl, SqL.of hr2, hv, .inl ⟨_, rfl, ?_⟩⟩
    refine ⟨_, rfl, _, _, rfl, rfl, hm0, ?_⟩
    exact fin _ (Int.emod_nonneg _ (by omega)) (Int.emod_lt_of_pos _ hm0)
abbrev sDraws : Stmt := topS 48
theorem scDraws : FnScope ["script", "many", "draws", "mixed", "k", "cell", "rest", "turn"] ["script", "many"] (defScope sDraws) := ⟨rfl, rfl, rfl, by decide +kernel, rfl, by decide +kernel, by decide +kernel⟩
/-- some row of whole numbers -/
def spDraws (K : PySem.W.Frag) : Sp := fun vs H Q _ => ∃ (a : Addr) (ns : List Int) (m : Nat), vs = [.ref a, .int (m : Int)] ∧ SqL K H a (ns.map V.int) ∧ ns.length ≤ 63 ∧ m ≤ 1000 ∧ ∀ (r : Addr) (row : List Int) (H' : Hp), H r = none → Same H H' → H' r = some (.lst (row.map V.int)) → Q (.ref r) H'
theorem cut_ints (row : List Int) (lo hi : Option Int) : ∃ row' : List Int, cutV (row.map V.int) lo hi = row'.map V.int := by
  unfold cutV
  simp only [← List.map_drop, ← List.map_take]
  exact ⟨_, rfl⟩
theorem c_draws {f : Addr} {fd : FuncData} (T : TxtD mg) (F : Fun K "_law_draws" "_law_draws" sDraws f fd) (b : Binds K fd ["script", "many"] []) (hm : mg "_law_draws" = some (.ref f)) : C8.Cal P w K mg base 1 "_law_draws" (spDraws K) [] := by
  refine cal_of F hm b scDraws (fun vs H Q E h => ?_) (fun cdv A outer s H vs Q E hr h => ?_)
  · obtain ⟨a, ns, m, rfl, _⟩ := h
    rfl
  obtain ⟨a, ns, m, rfl, hS, h63, hm1, q⟩ := h
  refine ⟨_, (pss_cons (ps_set (i := 2) scDraws.nd rfl (Or.inl rfl) (pe_lst pa_nil))
    (pss_cons (ps_set (i := 3) scDraws.nd rfl (Or.inl rfl) pe_int)
    (pss_cons (ps_for PassesOwn.never rfl (pi_range1 rfl T.zrange (pa_cons (pe_callB call_len_seq rfl T.zlen PySem.boot_len (pa_cons (pv 0) pa_nil)) pa_nil)) (pg_name (i := 4) scDraws.nd rfl (Or.inl rfl))
      (pss_cons (ps_set (i := 5) scDraws.nd rfl (Or.inl rfl) (pe_callB call_abs rfl T.zabs boot_abs (pa_cons (pe_callTy call_int1 rfl T.zint boot_int (pa_cons (pe_ix ix_list (pv 0) (pv 4) (fun _ _ => rfl)) pa_nil)) pa_nil)))
    (pss_cons (ps_set (i := 3) scDraws.nd rfl (Or.inl rfl) (pe_op op_mod (pe_callTy call_int1 rfl T.zint boot_int (pa_cons (pe_op op_add (pe_op op_add (pe_op op_mul (pv 3) pe_int) (pe_op op_mod (pv 5) pe_int)) (pv 4)) pa_nil)) pe_int))
    (pss_cons (ps_set (i := 6) scDraws.nd rfl (Or.inl rfl) pe_int)
    (C8.pss_cut (ps_if (pt_cmpR op_ge (pv 5) (pe_op op_pow pe_int pe_int) (nomark _))
      (pss_one (ps_set (i := 6) scDraws.nd rfl (Or.inl rfl) (pv 5)))
      (pss_cons (ps_expr (pe_bm PySem.F.plainAttrs_list PySem.F.slot_list_append PySem.F.type_list_append mt_append (pv 2) (pa_cons (pe_op op_mod (pe_callTy call_int1 rfl T.zint boot_int (pa_cons (pv 5) pa_nil)) pe_int) pa_nil)))
    (pss_one (ps_expr (pe_bm PySem.F.plainAttrs_list PySem.F.slot_list_append PySem.F.type_list_append mt_append (pv 2) (pa_cons (pe_op op_mod (pe_op op_mod (pe_callTy call_int1 rfl T.zint boot_int (pa_cons (pe_op op_add (pe_op op_mul (pv 3) pe_int) pe_int) pa_nil)) pe_int) pe_int) pa_nil))))))
    (pss_one (ps_for PassesOwn.never rfl (pi_range1 rfl T.zrange (pa_cons pe_int pa_nil)) (pg_name (i := 7) scDraws.nd rfl (Or.inl rfl))
      (pss_one (ps_if (pt_cmpR op_gt (pv 6) pe_int (nomark _))
      (pss_cons (ps_expr (pe_bm PySem.F.plainAttrs_list PySem.F.slot_list_append PySem.F.type_list_append mt_append (pv 2) (pa_cons (pe_op op_mod (pe_callTy call_int1 rfl T.zint boot_int (pa_cons (pv 6) pa_nil)) pe_int) pa_nil)))
    (pss_one (ps_set (i := 6) scDraws.nd rfl (Or.inl rfl) (pe_op op_fdiv (pv 6) pe_int))))
      pss_nil)))))))))
    (pss_cons (ps_for PassesOwn.never rfl (pi_range1 rfl T.zrange (pa_cons (pv 1) pa_nil)) (pg_name (i := 4) scDraws.nd rfl (Or.inl rfl))
      (pss_cons (ps_set (i := 3) scDraws.nd rfl (Or.inl rfl) (pe_op op_mod (pe_callTy call_int1 rfl T.zint boot_int (pa_cons (pe_op op_add (pe_op op_add (pe_op op_mul (pv 3) pe_int) (pv 4)) pe_int) pa_nil)) pe_int))
    (pss_one (ps_expr (pe_bm PySem.F.plainAttrs_list PySem.F.slot_list_append PySem.F.type_list_append mt_append (pv 2) (pa_cons (pe_op op_mod (pe_callTy call_int1 rfl T.zint boot_int (pa_cons (pv 3) pa_nil)) pe_int) pa_nil))))))
    (pss_one (ps_ret (pe_slice sl_list (pv 2) po_none (po_some (pv 1))))))))), ?_⟩
  refine ⟨(by show 0 ≤ sizeLine; decide), fun r hr0 => ?_⟩
  refine ⟨_, rfl, a, _, rfl, .inl ((same_new hr0 _).seq hS), _, rfl, ?_, ?_, for_range
    (fun (k : Nat) σ H2 => ∃ (kk c t x : Option V) (mx : Int) (row : List Int), σ = [some (.ref a), some (.int (m : Int)), some (.ref r), some (.int mx), kk, c, t, x] ∧ Same H H2 ∧ H2 r = some (.lst (row.map V.int)) ∧ row.length ≤ 62 * k)
    ⟨none, none, none, none, 7, [], rfl, same_new hr0 _, upd_same, by simp⟩ ?_ ?_⟩
  · omega
  · rw [List.length_map]
    omega
  · rintro k σ H2 hk ⟨kk, c, t, x, mx, row, rfl, s2, hrow, hl⟩
    have hk' : (k : Int) < (ns.length : Int) := by
      rw [List.length_map] at hk
      omega
    obtain ⟨v, hv⟩ := at_int (ns := ns) (i := 0 + (k : Int)) (by omega) (by omega)
    refine ⟨_, rfl, _, rfl, a, _, _, _, rfl, rfl, s2.seq hS, hv, .inl ⟨_, rfl, _, rfl, ?_⟩⟩
    refine ⟨_, rfl, _, _, rfl, rfl, .inr (by decide), _, rfl, _, _, rfl, rfl, (show (0 : Int) < 1000003 by decide), _, _, rfl, rfl, _, rfl, _, _, rfl, rfl, .inl ⟨_, rfl, _, _, rfl, rfl, (show (0 : Int) < 65537 by decide), ?_⟩⟩
    refine ⟨fun σ H3 => ∃ (c : Option V) (mx x : Int) (t : Option V) (row : List Int), σ = [some (.ref a), some (.int (m : Int)), some (.ref r), some (.int mx), some (.int (0 + (k : Int))), c, some (.int x), t] ∧ Same H H3 ∧ H3 r = some (.lst (row.map V.int)) ∧ row.length ≤ 62 * k + 2, ?_, ?_⟩
    · refine ⟨_, rfl, _, _, rfl, rfl, ⟨by decide, by decide, by decide⟩, _, _, rfl, rfl, _, rfl, ?_⟩
      refine ite2 (fun _ => ?_) (fun _ => ?_)
      · exact ⟨_, rfl, _, _, _, _, row, rfl, s2, hrow, by omega⟩
      · refine ⟨_, rfl, .inl ⟨rfl, _, SqL.of hrow⟩, _, rfl, .inl ⟨_, rfl, _, _, rfl, rfl, (show (0 : Int) < 997 by decide), r, _, _, rfl, rfl, hrow, szl (by rw [List.length_map]; omega), ?_⟩⟩
        have e3 : ∀ z : Int, upd H2 r (.lst (row.map V.int ++ [.int z])) r = some (.lst ((row ++ [z]).map V.int)) := fun z => by rw [upd_same, List.map_append]; rfl
        have s3 : ∀ z : Int, Same H (upd H2 r (.lst (row.map V.int ++ [.int z]))) := fun z => same_upd hr0 s2 _
        refine ⟨_, rfl, .inl ⟨rfl, _, SqL.of (e3 _)⟩, _, rfl, _, _, rfl, rfl, .inr (by decide), _, _, rfl, rfl, .inl ⟨_, rfl, _, _, rfl, rfl, (show (0 : Int) < 65521 by decide), _, _, rfl, rfl, (show (0 : Int) < 997 by decide), r, _, _, rfl, rfl, e3 _, szl (by rw [List.length_map, List.length_append]; show _ + 1 ≤ _; omega), ?_⟩⟩
        refine ⟨_, _, _, _, row ++ [_] ++ [_], rfl, same_upd hr0 (s3 _) _, by rw [upd_same]; simp only [List.map_append]; rfl, ?_⟩
        rw [List.length_append, List.length_append]
        show row.length + 1 + 1 ≤ _
        omega
    rintro σ H3 ⟨c, mx, x, t, row, rfl, s3, hrow, hl⟩
    refine ⟨60, rfl, by decide, by decide, for_range (fun (j : Nat) σ H3 => ∃ (c : Option V) (mx x : Int) (t : Option V) (row : List Int), σ = [some (.ref a), some (.int (m : Int)), some (.ref r), some (.int mx), some (.int (0 + (k : Int))), c, some (.int x), t] ∧ Same H H3 ∧ H3 r = some (.lst (row.map V.int)) ∧ row.length ≤ 62 * k + 2 + j)
      ⟨_, _, _, _, row, rfl, s3, hrow, by omega⟩ ?_ ?_⟩
    · rintro j σ H3 hj ⟨c, mx, x, t, row, rfl, s3, hrow, hl⟩
      refine ⟨_, rfl, _, _, rfl, rfl, _, rfl, ?_⟩
      refine ite2 (fun _ => ?_) (fun _ => ?_)
      · refine ⟨_, rfl, .inl ⟨rfl, _, SqL.of hrow⟩, _, rfl, .inl ⟨_, rfl, _, _, rfl, rfl, (show (0 : Int) < 997 by decide), r, _, _, rfl, rfl, hrow, szl (by rw [List.length_map]; omega), ?_⟩⟩
        refine ⟨_, rfl, _, _, rfl, rfl, ⟨by decide, by decide⟩, ?_⟩
        refine ⟨_, _, _, _, row ++ [_], rfl, same_upd hr0 s3 _, by rw [upd_same, List.map_append]; rfl, ?_⟩
        rw [List.length_append]
        show row.length + 1 ≤ _
        omega
      · exact ⟨_, _, _, _, row, rfl, s3, hrow, by omega⟩
    · rintro σ H3 ⟨c, mx, x, t, row, rfl, s3, hrow, hl⟩
      exact ⟨_, _, _, _, _, row, rfl, s3, hrow, by omega⟩
  · rintro σ H2 ⟨kk, c, t, x, mx, row, rfl, s2, hrow, hl⟩
    rw [List.length_map] at hl
    refine ⟨_, rfl, ?_⟩
    refine ⟨_, rfl, by omega, by omega, for_range (fun (j : Nat) σ H3 => ∃ (kk c t x : Option V) (mx : Int) (row : List Int), σ = [some (.ref a), some (.int (m : Int)), some (.ref r), some (.int mx), kk, c, t, x] ∧ Same H H3 ∧ H3 r = some (.lst (row.map V.int)) ∧ row.length ≤ 4000 + j)
      ⟨_, _, _, _, _, row, rfl, s2, hrow, by omega⟩ ?_ ?_⟩
    · rintro j σ H3 hj ⟨kk, c, t, x, mx, row, rfl, s3, hrow, hl⟩
      have hj : j < ((m : Int)).toNat := hj
      refine ⟨_, rfl, _, _, rfl, rfl, .inr (by decide), _, rfl, _, _, rfl, rfl, _, _, rfl, rfl, .inl ⟨_, rfl, _, _, rfl, rfl, (show (0 : Int) < 65537 by decide), ?_⟩⟩
      refine ⟨_, rfl, .inl ⟨rfl, _, SqL.of hrow⟩, _, rfl, .inl ⟨_, rfl, _, _, rfl, rfl, (show (0 : Int) < 997 by decide), r, _, _, rfl, rfl, hrow, szl (by rw [List.length_map]; omega), ?_⟩⟩
      refine ⟨_, _, _, _, _, row ++ [_], rfl, same_upd hr0 s3 _, by rw [upd_same, List.map_append]; rfl, ?_⟩
      rw [List.length_append]
      show row.length + 1 ≤ _
      omega
    · rintro σ H3 ⟨kk, c, t, x, mx, row, rfl, s3, hrow, hl⟩
      obtain ⟨row', hc⟩ := cut_ints row none (some (m : Int))
      refine ⟨_, rfl, _, rfl, _, rfl, r, _, rfl, SqL.of hrow, fun p hp => ?_⟩
      rw [hc]
      exact q p row' _ (s3.free hp) (same_upd (s3.free hp) s3 _) upd_same
end
end Toy

set_option Elab.async false
set_option linter.all false
set_option maxRecDepth 100000
set_option maxHeartbeats 4000000
/-! Part X: own rules: a text times a number, d.get of a written dict, comprehensions over texts and lists. -/
namespace L2
open PySem PySem.Spec PyProof.Rows
def repS (z : Str) (n : Nat) : Str := ⟨(List.replicate n z.cps).foldl (· ++ ·) #[]⟩
theorem rep_size (a : Array Nat) : ∀ (n : Nat) (acc : Array Nat), ((List.replicate n a).foldl (· ++ ·) acc).size = acc.size + n * a.size
  | 0, acc => by simp
  | n + 1, acc => by
    rw [List.replicate_succ, List.foldl_cons, rep_size a n, Array.size_append, Nat.succ_mul]
    omega
/-- z * n -/
def rMulS : R2 := fun x y H Q => ∃ (z : Str) (n : Nat), x = .str z ∧ y = .int (n : Int) ∧ 2 ≤ n ∧ n ≤ 1000 ∧ 0 < z.length ∧ z.length ≤ 1000 ∧ Q (.str (repS z n)) H
section
variable {X : Cx}
theorem op_mulS : OpR X (binaryOp .Mult) rMulS := by
  intro pins s σ H x y v u Q I rx ry h
  obtain ⟨z, n, rfl, rfl, h2, h1000, hz, hz2, q⟩ := h
  obtain ⟨t, rfl⟩ := rx
  obtain ⟨t2, rfl⟩ := ry
  have c1 : ((n : Int) == 1 || z.length == 0) = false := by
    rw [Bool.or_eq_false_iff]
    exact ⟨beq_eq_false_iff_ne.mpr (by omega), beq_eq_false_iff_ne.mpr (by omega)⟩
  refine PySem.P.mul_str ?_ (fun _ _ => ?_) (fun _ _ => ?_) ?_
  · rw [decide_eq_false (by omega), decide_eq_false (by omega)] <;> rfl
  · have : (1000 : Int) ≤ (2 ^ 63 - 1) / (n : Int) := Int.le_ediv_of_mul_le (by omega) (by omega)
    omega
  · show decide (z.length * ((n : Int)).toNat > sizeLine) = false
    have a1 : z.length * ((n : Int)).toNat ≤ 1000 * 1000 := Nat.mul_le_mul hz2 (by omega)
    exact decide_eq_false (by rw [sizeLine_eq]; omega)
  · rw [if_neg (by omega), if_neg (by rw [c1]; decide)]
    have hlen := rep_size z.cps n #[]
    refine ⟨?_, .str _, H, I.tok _, ⟨_, rfl⟩, q⟩
    show ((List.replicate ((n : Int)).toNat z.cps).foldl (· ++ ·) #[]).size ≤ sizeLine
    rw [show ((n : Int)).toNat = n from Int.toNat_natCast n, hlen, sizeLine_eq]
    have a1 : n * z.cps.size ≤ 1000 * 1000 := Nat.mul_le_mul (by omega) hz2
    show 0 + n * z.cps.size ≤ _
    omega
end
/-- d.get(key), d a dict of the module with text keys -/
def tKGet (K : PySem.W.Frag) (d : Addr) (td ty : TE) : TE := fun σ H Q => td σ H fun x H1 => x = .ref d ∧ ty σ H1 fun y H2 => ∃ (z : Str) (r : Option Value) (v0 : V), y = .str z ∧ PySem.W.nsIn K d z = some r ∧ RelV v0 (r.getD .none) ∧ Q v0 H2
section
variable {X : Cx} {o e : Expr} {apos cpos : Pos} {td ty : TE} {d : Addr} {es : Array DictEntry} {n : Nat}
theorem pe_kget (D : KDict X.K X.w d es n) (ho : PE X o td) (he : PE X e ty) (m : M1 X o "get" apos e cpos) : PE X (.Call (.Attribute o "get" apos) [e] [] cpos) (tKGet X.K d td ty) := by
  refine ⟨fun pins s σ H Q I h => ?_⟩
  refine wpAny_Call_method m.base m.few m.line PySem.F.plainAttrs_dict PySem.F.slot_dict_get PySem.F.type_dict_get (thn (ho.run pins s σ H _ I h) fun u s1 ⟨x, H1, I1, rx, ex, q1⟩ => ?_)
  subst ex
  obtain rfl : u = Value.ref d := rx
  refine ⟨kd_type D I1, fun b q => ?_, ?_⟩
  · cases q
    obtain ⟨ob, h1, h2⟩ : ∃ ob, s1.heap.get? d = some ob ∧ ob.dict = none := ⟨_, I1.kIn d _ D.at_, rfl⟩
    exact ⟨ob, h1, h2⟩
  rw [m.trees]
  refine Calls.callWith_builtin rfl (Calls.evalArgs_plain (Calls.spliced_cons (thn (he.run pins s1 σ H1 _ I1 q1) fun iv s2 ⟨y, H2, I2, ry, z, r, v0, ey, en, rv, q2⟩ => Calls.spliced_nil ?_)))
  subst ey
  obtain ⟨t, rfl⟩ := ry
  refine call_meetsIn PySem.F.slot_dict_get (kd_type D I2) PySem.F.entry_dict_get (PySem.F.args_dict_get_2 _ _) (meets_dict_get (strKind X.prog X.w) d (PySem.strKind_is X.prog X.w z t) D.low) ⟨_, PySem.W.mapOf_K (prog := X.prog) I2.kIn D.at_ D.lit, ?_⟩
  rw [PySem.W.find_K D.at_ en]
  exact ⟨v0, H2, I2.tok _, rv, q2⟩
end
/-- a comprehension over a text -/
theorem lc_str {x : Str} {g : TG} {tt : TT} {te : TE} {vs : List Nat} {σ : St} {H1 : Hp} {D : Addr} {Qd : Hp → Prop} (Pv : Nat → Hp → Prop) (h0 : Pv 0 (upd H1 D (.lst [])))
    (hs : ∀ i c H, x.cps[i]? = some c → Pv i H → g (.str ⟨#[c]⟩) (wipe σ vs) H fun σ2 H2 => wipe σ2 vs = wipe σ vs ∧ tt σ2 H2 fun b H3 =>
      if b = true then te σ2 H3 fun y H4 => ∃ acc, H4 D = some (.lst acc) ∧ acc.length < sizeLine ∧ Pv (i + 1) (upd H4 D (.lst (acc ++ [y]))) else Pv (i + 1) H3) (hd : ∀ H, Pv x.cps.size H → Qd H) :
    ∃ W : Nat → Nat → Hp → Prop, (∃ m, W 0 m (upd H1 D (.lst []))) ∧ ∀ i m H, W i m H →
      ((Its x).stop i H ∧ Qd H) ∨ ((Its x).go i H ∧ ∃ Nx : Hp → Prop, (∀ H', Nx H' → ∃ m', m' < m ∧ W (i + 1) m' H') ∧ ∀ y H', (Its x).yld i H y H' → g y (wipe σ vs) H' fun σ2 H2 => wipe σ2 vs = wipe σ vs ∧ tt σ2 H2 fun b H3 =>
        if b = true then te σ2 H3 fun y H4 => ∃ acc, H4 D = some (.lst acc) ∧ acc.length < sizeLine ∧ Nx (upd H4 D (.lst (acc ++ [y]))) else Nx H3) := by
  refine ⟨fun i m H => m = x.cps.size - i ∧ i ≤ x.cps.size ∧ Pv i H, ⟨x.cps.size, by simp, Nat.zero_le _, h0⟩, ?_⟩
  rintro i m H ⟨rfl, hi, p⟩
  by_cases hlt : i < x.cps.size
  · refine .inr ⟨hlt, Pv (i + 1), fun H' p' => ⟨x.cps.size - (i + 1), by omega, rfl, hlt, p'⟩, fun y H' hy => ?_⟩
    obtain ⟨rfl, c, hc, rfl⟩ := hy
    exact hs i c _ hc p
  · have e : i = x.cps.size := by omega
    subst e
    exact .inl ⟨Nat.le_refl _, hd H p⟩
/-- a dict comprehension over a list that stays -/
theorem dc_list {K : PySem.W.Frag} {a : Addr} {xs : List V} {g : TG} {tt : TT} {tk tv : TE} {vs : List Nat} {σ : St} {H1 : Hp} {D : Addr} {Qd : Hp → Prop} (Pv : Nat → Hp → Prop) (h0 : Pv 0 (upd H1 D (.dK []))) (hl : ∀ i H, i ≤ xs.length → Pv i H → SqL K H a xs)
    (hs : ∀ i x H, xs[i]? = some x → Pv i H → g x (wipe σ vs) H fun σ2 H2 => wipe σ2 vs = wipe σ vs ∧ tt σ2 H2 fun b H3 =>
      if b = true then tk σ2 H3 fun y H4 => tv σ2 H4 fun z H5 => ∃ kvs k, y = kV k ∧ H5 D = some (.dK kvs) ∧ kvs.length < sizeLine ∧ Pv (i + 1) (upd H5 D (.dK (putK kvs k z))) else Pv (i + 1) H3) (hd : ∀ H, Pv xs.length H → Qd H) :
    ∃ W : Nat → Nat → Hp → Prop, (∃ m, W 0 m (upd H1 D (.dK []))) ∧ ∀ i m H, W i m H →
      ((Itl K a).stop i H ∧ Qd H) ∨ ((Itl K a).go i H ∧ ∃ Nx : Hp → Prop, (∀ H', Nx H' → ∃ m', m' < m ∧ W (i + 1) m' H') ∧ ∀ x H', (Itl K a).yld i H x H' → g x (wipe σ vs) H' fun σ2 H2 => wipe σ2 vs = wipe σ vs ∧ tt σ2 H2 fun b H3 =>
        if b = true then tk σ2 H3 fun y H4 => tv σ2 H4 fun z H5 => ∃ kvs k, y = kV k ∧ H5 D = some (.dK kvs) ∧ kvs.length < sizeLine ∧ Nx (upd H5 D (.dK (putK kvs k z))) else Nx H3) := by
  refine ⟨fun i m H => m = xs.length - i ∧ i ≤ xs.length ∧ Pv i H, ⟨xs.length, by simp, Nat.zero_le _, h0⟩, ?_⟩
  rintro i m H ⟨rfl, hi, p⟩
  have q := hl i H hi p
  by_cases hlt : i < xs.length
  · refine .inr ⟨⟨xs, xs[i], q, by simp [hlt]⟩, Pv (i + 1), fun H' p' => ⟨xs.length - (i + 1), by omega, rfl, hlt, p'⟩, fun x H' y => ?_⟩
    obtain ⟨e, y⟩ := y
    subst e
    exact hs i x _ (y xs q) p
  · have e : i = xs.length := by omega
    subst e
    exact .inl ⟨⟨xs, q, Nat.le_refl _⟩, hd H p⟩
end L2
namespace Toy
open PySem PySem.Spec PyProof.Rows L2
/-- list.extend of a tuple, whatever stands beside its items -/
theorem extend_tupW (l : Addr) (items : Array Value) (n : Nat) (b : Addr) (items2 : Array Value) (n2 : Nat) (dd2 : Option Addr) (sl2 : Array (Option Value)) (hs0 : ¬(!items.isEmpty && Builtin.List.listTooLong (items.size + items2.size)) = true) (hs1 : items.size ≤ sizeLine) (hs2 : items.size + items2.size ≤ sizeLine + 1) :
    Meets (Builtin.«list.extend» ⟨[.ref l, .ref b], []⟩) (fun _ R s => s.heap.get? l = some { cls := .type "list", dict := none, data := .seq items n, slots := #[] } ∧ s.heap.get? b = some { cls := .type "tuple", dict := dd2, data := .seq items2 n2, slots := sl2 } ∧ R (.ok (.ret Value.none)) { s with heap := s.heap.update l (Obj.mapSeq fun x => x ++ items2), toks := s.toks }) :=
  .of_wp fun prog w A R s h => by
    obtain ⟨hp, g, d, tk, os⟩ := s
    obtain ⟨hl, hb, h⟩ := h
    have f1 := AutoSeq1.idx_int
    have f2 := AutoSeq1.sub_tuple_tuple
    have f3 := AutoSeq1.sub_list_list
    have f4 := AutoSeq1.sub_tuple_list
    have f5 := AutoSeq1.sub_list_tuple
    have hz' : (items ++ items2).size ≤ sizeLine + 1 := by rw [Array.size_append]; exact hs2
    wp_walk using (wpAny_updateSeq hl rfl (hz := hs1) (_hz' := hz')), AutoSeq1.wpAny_loadPart' hl, AutoSeq1.wpAny_loadPart' hb
    exact ⟨_, rfl, h⟩
def rExtendT (K : PySem.W.Frag) : V → List V → Hp → VK → Prop := fun x vs H Q => ∃ l b xs zs, x = .ref l ∧ vs = [.ref b] ∧ H l = some (.lst xs) ∧ SqT K H b zs ∧ xs.length + zs.length ≤ sizeLine ∧ Q .non (upd H l (.lst (xs ++ zs)))
theorem mt_extendT {X : Cx} : MtM X "list.extend" (rExtendT X.K) := by
  intro pins s σ H x vs v us Q I rx rv h
  obtain ⟨l, b, xs, zs, rfl, rfl, hH, hB, hz, q⟩ := h
  cases rx
  obtain ⟨u, rfl, ru⟩ := rv.one
  cases ru
  obtain ⟨z, its, n, r, hl, e⟩ := I.lstM hH
  obtain ⟨its2, r2, ht2, hz2⟩ := I.tuple hB
  obtain ⟨⟨cls2, dd2, data2, sl2⟩, ho2, hc2, n2, hd2⟩ := id ht2
  simp only at hc2 hd2
  subst hc2 hd2
  have l1 := r.length
  have l2 := r2.length
  have hsz : its.toArray.size + its2.toArray.size ≤ sizeLine := by rw [List.size_toArray, List.size_toArray]; omega
  have hlong : ¬ (!its.toArray.isEmpty && Builtin.List.listTooLong (its.toArray.size + its2.toArray.size)) = true := by
    rw [notLongL hsz, Bool.and_false]
    exact Bool.false_ne_true
  refine call_meets PySem.F.slot_list_extend ⟨_, e, rfl⟩ PySem.F.entry_list_extend (PySem.F.args_list_extend_2 _ _)
    (extend_tupW l its.toArray n b its2.toArray n2 dd2 sl2 hlong (by rw [List.size_toArray]; omega) (by omega)) ⟨e, ho2, ?_⟩
  refine ⟨.non, _, I.lset (its' := its ++ its2) hH e (by simp) (r.append r2) ?_, rfl, q⟩
  rw [List.length_append]
  omega

end Toy

set_option Elab.async false
set_option linter.all false
set_option maxRecDepth 100000
set_option maxHeartbeats 4000000
/-! Part B: things in plain Lean, how they stand in the heap; what a term is. -/
namespace Toy
open PySem L2
inductive Dd
  | non
  | bl (b : Bool)
  | int (i : Int)
  | str (s : Str)
  | tup (l : List Dd)
  | lst (l : List Dd)
mutual
/-- such a thing stands in the heap as v, in tuples and in lists of B -/
def Dd.At (B : Addr → Prop) (H : Hp) : Dd → V → Prop
  | .non, v => v = .non
  | .bl b, v => v = .bl b
  | .int i, v => v = .int i
  | .str s, v => v = .str s ∧ s.length ≤ 1000
  | .tup l, v => ∃ a xs, v = .ref a ∧ H a = some (.tup xs) ∧ Dd.Ats B H l xs
  | .lst l, v => ∃ a xs, v = .ref a ∧ B a ∧ H a = some (.lst xs) ∧ Dd.Ats B H l xs
def Dd.Ats (B : Addr → Prop) (H : Hp) : List Dd → List V → Prop
  | [], xs => xs = []
  | k :: l, xs => ∃ x ys, xs = x :: ys ∧ k.At B H x ∧ Dd.Ats B H l ys
end
/-- a heap in which the tuples, and the lists of B, stand -/
def Fr (B : Addr → Prop) (H H' : Hp) : Prop := (∀ a xs, H a = some (.tup xs) → H' a = some (.tup xs)) ∧ ∀ a xs, B a → H a = some (.lst xs) → H' a = some (.lst xs)
theorem Fr.refl (B : Addr → Prop) (H : Hp) : Fr B H H := ⟨fun _ _ h => h, fun _ _ _ h => h⟩
theorem Fr.trans {B : Addr → Prop} {H1 H2 H3 : Hp} (h : Fr B H1 H2) (k : Fr B H2 H3) : Fr B H1 H3 := ⟨fun a xs e => k.1 a xs (h.1 a xs e), fun a xs b e => k.2 a xs b (h.2 a xs b e)⟩
theorem fr_same {B : Addr → Prop} {H H' : Hp} (s : Same H H') : Fr B H H' := ⟨fun _ _ e => s _ _ e, fun _ _ _ e => s _ _ e⟩
theorem fr_list {B : Addr → Prop} {H : Hp} {p : Addr} {ys : List V} {o : HO} (h : H p = some (.lst ys)) (n : ¬ B p) : Fr B H (upd H p o) :=
  ⟨fun a xs e => by rw [upd_ne (fun z => by rw [z, h] at e; cases e)]; exact e, fun a xs b e => by rw [upd_ne (fun z => n (by rw [← z]; exact b))]; exact e⟩
theorem fr_dict {B : Addr → Prop} {H : Hp} {p : Addr} {kvs : List (Key × V)} {o : HO} (h : H p = some (.dK kvs)) : Fr B H (upd H p o) :=
  ⟨fun a xs e => by rw [upd_ne (fun z => by rw [z, h] at e; cases e)]; exact e, fun a xs b e => by rw [upd_ne (fun z => by rw [z, h] at e; cases e)]; exact e⟩
theorem DrawsAt.ne_tup {H : Hp} {p r a : Addr} {C : Nat} {xs : List V} (d : DrawsAt H p r C) (e : H a = some (.tup xs)) : a ≠ p := fun z => by
  obtain ⟨row, i, f, h1, _⟩ := d
  rw [z, h1] at e
  cases e
theorem DrawsAt.ne_list {H : Hp} {p r a : Addr} {C : Nat} {xs : List V} (d : DrawsAt H p r C) (e : H a = some (.lst xs)) : a ≠ p := fun z => by
  obtain ⟨row, i, f, h1, _⟩ := d
  rw [z, h1] at e
  cases e
theorem fr_keep {B : Addr → Prop} {p r : Addr} {C : Nat} {H H' : Hp} (k : Keep p H H') (d : DrawsAt H p r C) : Fr B H H' :=
  ⟨fun a xs e => k _ _ (d.ne_tup e) e, fun a xs _ e => k _ _ (d.ne_list e) e⟩
theorem sameT {H1 H2 H3 : Hp} (h : Same H1 H2) (k : Same H2 H3) : Same H1 H3 := fun a u e => k a u (h a u e)
mutual
theorem Dd.At.keep {B : Addr → Prop} {H H' : Hp} : ∀ {k : Dd} {v : V}, Fr B H H' → k.At B H v → k.At B H' v
  | .non, _, _, h => h
  | .bl _, _, _, h => h
  | .int _, _, _, h => h
  | .str _, _, _, h => h
  | .tup l, _, t, ⟨a, xs, e, h, hs⟩ => ⟨a, xs, e, t.1 _ _ h, Dd.Ats.keep t hs⟩
  | .lst l, _, t, ⟨a, xs, e, b, h, hs⟩ => ⟨a, xs, e, b, t.2 _ _ b h, Dd.Ats.keep t hs⟩
theorem Dd.Ats.keep {B : Addr → Prop} {H H' : Hp} : ∀ {l : List Dd} {xs : List V}, Fr B H H' → Dd.Ats B H l xs → Dd.Ats B H' l xs
  | [], _, _, h => h
  | k :: l, _, t, ⟨x, ys, e, h, hs⟩ => ⟨x, ys, e, Dd.At.keep t h, Dd.Ats.keep t hs⟩
end
mutual
theorem Dd.At.weak {B C : Addr → Prop} {H : Hp} (hBC : ∀ a xs, H a = some (.lst xs) → B a → C a) : ∀ {k : Dd} {v : V}, k.At B H v → k.At C H v
  | .non, _, h => h
  | .bl _, _, h => h
  | .int _, _, h => h
  | .str _, _, h => h
  | .tup l, _, ⟨a, xs, e, h, hs⟩ => ⟨a, xs, e, h, Dd.Ats.weak hBC hs⟩
  | .lst l, _, ⟨a, xs, e, b, h, hs⟩ => ⟨a, xs, e, hBC _ _ h b, h, Dd.Ats.weak hBC hs⟩
theorem Dd.Ats.weak {B C : Addr → Prop} {H : Hp} (hBC : ∀ a xs, H a = some (.lst xs) → B a → C a) : ∀ {l : List Dd} {xs : List V}, Dd.Ats B H l xs → Dd.Ats C H l xs
  | [], _, h => h
  | k :: l, _, ⟨x, ys, e, h, hs⟩ => ⟨x, ys, e, Dd.At.weak hBC h, Dd.Ats.weak hBC hs⟩
end
/-- what stands in this heap -/
def Ex (H : Hp) (a : Addr) : Prop := H a ≠ none
theorem Dd.At.here {B : Addr → Prop} {H : Hp} {k : Dd} {v : V} (h : k.At B H v) : k.At (Ex H) H v := h.weak fun a xs e _ => by unfold Ex; rw [e]; exact fun z => by cases z
theorem Dd.Ats.here {B : Addr → Prop} {H : Hp} {l : List Dd} {xs : List V} (h : Dd.Ats B H l xs) : Dd.Ats (Ex H) H l xs := h.weak fun a xs e _ => by unfold Ex; rw [e]; exact fun z => by cases z
theorem ats_len {B : Addr → Prop} {H : Hp} : ∀ {l : List Dd} {xs : List V}, Dd.Ats B H l xs → xs.length = l.length
  | [], _, h => by cases h; rfl
  | k :: l, _, ⟨x, ys, e, h, hs⟩ => by
    cases e
    show ys.length + 1 = l.length + 1
    rw [ats_len hs]
theorem ats_app {B : Addr → Prop} {H : Hp} : ∀ {l m : List Dd} {xs ys : List V}, Dd.Ats B H l xs → Dd.Ats B H m ys → Dd.Ats B H (l ++ m) (xs ++ ys)
  | [], m, xs, ys, h, k => by
    cases h
    exact k
  | t :: l, m, _, ys, ⟨x, zs, e, h, hs⟩, k => by
    cases e
    exact ⟨x, zs ++ ys, rfl, h, ats_app hs k⟩
theorem ats_one {B : Addr → Prop} {H : Hp} {k : Dd} {v : V} (h : k.At B H v) : Dd.Ats B H [k] [v] := ⟨v, [], rfl, h, rfl⟩
theorem ats_get {B : Addr → Prop} {H : Hp} : ∀ {l : List Dd} {xs : List V} {i : Nat} {x : V}, Dd.Ats B H l xs → xs[i]? = some x → ∃ k, l[i]? = some k ∧ k.At B H x
  | [], _, i, x, h, e => by cases h; simp at e
  | k :: l, _, 0, x, ⟨y, ys, e, h, hs⟩, ex => by
    cases e
    cases ex
    exact ⟨k, rfl, h⟩
  | k :: l, _, i + 1, x, ⟨y, ys, e, h, hs⟩, ex => by
    cases e
    exact ats_get (l := l) (i := i) hs ex
theorem ats_getI {B : Addr → Prop} {H : Hp} : ∀ {l : List Dd} {xs : List V} {i : Nat} {k : Dd}, Dd.Ats B H l xs → l[i]? = some k → ∃ x, xs[i]? = some x ∧ k.At B H x
  | [], _, i, x, h, e => by simp at e
  | k :: l, _, 0, x, ⟨y, ys, e, h, hs⟩, ex => by
    cases e
    cases ex
    exact ⟨y, rfl, h⟩
  | k :: l, _, i + 1, x, ⟨y, ys, e, h, hs⟩, ex => by
    cases e
    exact ats_getI (l := l) (i := i) hs ex
theorem ats_snoc {B : Addr → Prop} {H : Hp} : ∀ {l : List Dd} {k : Dd} {xs : List V}, Dd.Ats B H (l ++ [k]) xs → ∃ ys y, xs = ys ++ [y] ∧ Dd.Ats B H l ys ∧ k.At B H y
  | [], k, xs, ⟨x, ys, e, h, hs⟩ => by
    cases e
    cases (show ys = [] from hs)
    exact ⟨[], x, rfl, rfl, h⟩
  | t :: l, k, xs, ⟨x, ys, e, h, hs⟩ => by
    cases e
    obtain ⟨zs, y, e2, h2, h3⟩ := ats_snoc hs
    exact ⟨x :: zs, y, by rw [e2]; rfl, ⟨x, zs, rfl, h, h2⟩, h3⟩
theorem ats_rev {B : Addr → Prop} {H : Hp} : ∀ {l : List Dd} {xs : List V}, Dd.Ats B H l xs → Dd.Ats B H l.reverse xs.reverse
  | [], _, h => by cases h; rfl
  | k :: l, _, ⟨x, ys, e, h, hs⟩ => by
    cases e
    rw [List.reverse_cons, List.reverse_cons]
    exact ats_app (ats_rev hs) (ats_one h)
theorem tYes_if {σ : L2.St} {H : Hp} {A B : Hp → Prop} (h : A H) : tYes σ H (fun b H3 => if b = true then A H3 else B H3) := by
  show if true = true then A H else B H
  rw [if_pos rfl]
  exact h
theorem at0 (x : V) (l : List V) : atI (x :: l) 0 = some x := atI_nat (j := 0) rfl
theorem at1 (x y : V) (l : List V) : atI (x :: y :: l) 1 = some y := atI_nat (j := 1) rfl
theorem at2 (x y z : V) (l : List V) : atI (x :: y :: z :: l) 2 = some z := atI_nat (j := 2) rfl
theorem at3 (x y z u : V) (l : List V) : atI (x :: y :: z :: u :: l) 3 = some u := atI_nat (j := 3) rfl
theorem nself (v : V) : (!decide (v = v)) = false := by simp
mutual
def Dd.sz : Dd → Nat
  | .tup l => 1 + Dd.szs l
  | .lst l => 1 + Dd.szs l
  | _ => 1
def Dd.szs : List Dd → Nat
  | [] => 0
  | k :: l => k.sz + Dd.szs l
end
theorem sz_pos : ∀ k : Dd, 1 ≤ k.sz
  | .non => Nat.le_refl _
  | .bl _ => Nat.le_refl _
  | .int _ => Nat.le_refl _
  | .str _ => Nat.le_refl _
  | .tup l => Nat.le_add_right 1 _
  | .lst l => Nat.le_add_right 1 _
theorem szs_app : ∀ l m : List Dd, Dd.szs (l ++ m) = Dd.szs l + Dd.szs m
  | [], m => by simp [Dd.szs]
  | k :: l, m => by
    show k.sz + Dd.szs (l ++ m) = k.sz + Dd.szs l + Dd.szs m
    rw [szs_app l m]
    omega
theorem szs_len : ∀ l : List Dd, l.length ≤ Dd.szs l
  | [] => Nat.le_refl _
  | k :: l => by
    have h1 := sz_pos k
    have h2 := szs_len l
    show l.length + 1 ≤ k.sz + Dd.szs l
    omega
theorem szs_mem : ∀ {l : List Dd} {k : Dd}, k ∈ l → k.sz ≤ Dd.szs l
  | t :: l, k, h => by
    show k.sz ≤ t.sz + Dd.szs l
    rcases List.mem_cons.mp h with e | e
    · rw [e]; omega
    · have := szs_mem e; omega
/-! ### what a term is -/
def isName : Dd → Bool
  | .str s => decide (1 ≤ s.length) && decide (s.length ≤ 80) && s.cps.toList.all fun c => decide (33 ≤ c) && decide (c ≤ 126) && decide (c ≠ 37)
  | _ => false
def isInt : Dd → Bool
  | .int _ => true
  | _ => false
def numIn (lo hi : Int) : Dd → Bool
  | .int i => decide (lo ≤ i) && decide (i ≤ hi)
  | _ => false
def cNum : Dd → Bool := numIn (-1000000000000000) 1000000000000000
def isTup : Dd → Bool
  | .tup _ => true
  | _ => false
def isRow (n : Nat) : Dd → Bool
  | .tup l => decide (l.length = n)
  | _ => false
def areRows (n : Nat) : Dd → Bool
  | .tup l => l.all (isRow n)
  | _ => false
/-- as often as they are the first of their kind -/
def ddK : List Key → List Key → List Key
  | acc, [] => acc
  | acc, k :: ks => ddK (if (acc.any fun j => decide (j = k)) = true then acc else acc ++ [k]) ks
def distK (ks : List Key) : Bool := decide ((ddK [] ks).length = ks.length)
def keyD : Dd → Key
  | .str s => Sum.inr s
  | .int i => Sum.inl i
  | _ => Sum.inl 0
def areNames : Dd → Bool
  | .tup l => l.all isName && distK (l.map keyD)
  | _ => false
def nth (i : Nat) : Dd → Dd
  | .tup l => l.getD i .non
  | _ => .non
def tl : Dd → List Dd
  | .tup l => l
  | _ => []
def isDflt : Dd → Bool
  | .non => true
  | .tup l => decide (l.length = 2) && isName (l.getD 0 .non)
  | _ => false
def signs : List Str := ["+", "-", "*", "div", "mod", "==", "<", "<="]
def isSign : Dd → Bool
  | .str s => decide (s ∈ signs)
  | _ => false
def arg (i : Nat) (r : List Dd) : Dd := r.getD i .non
def fNum (r : List Dd) : Bool := decide (r.length = 1) && cNum (arg 0 r)
def fVar (r : List Dd) : Bool := decide (r.length = 1) && isName (arg 0 r)
def fApp (r : List Dd) : Bool := decide (r.length = 2)
def fLam (r : List Dd) : Bool := decide (r.length = 2) && isName (arg 0 r)
def fLet (r : List Dd) : Bool := decide (r.length = 2) && areRows 2 (arg 0 r) && (decide (0 < (tl (arg 0 r)).length) && areNames (.tup ((tl (arg 0 r)).map (nth 0))))
def fSeq (r : List Dd) : Bool := decide (r.length = 3) && isName (arg 0 r)
def fCon (r : List Dd) : Bool := decide (r.length = 2) && (numIn 0 1000 (arg 0 r) && isTup (arg 1 r))
def fCase (r : List Dd) : Bool := decide (r.length = 3) && areRows 3 (arg 1 r) && isDflt (arg 2 r) && (tl (arg 1 r)).all fun q => numIn 0 1000 (nth 0 q) && areNames (nth 1 q)
def fPick (r : List Dd) : Bool := decide (r.length = 3) && areRows 2 (arg 1 r) && isDflt (arg 2 r) && (((tl (arg 1 r)).map (nth 0)).all cNum && distK (((tl (arg 1 r)).map (nth 0)).map keyD))
def fPrim (r : List Dd) : Bool := decide (r.length = 3) && isSign (arg 0 r)
def fNote (r : List Dd) : Bool := decide (r.length = 2) && numIn 0 1000000000000 (arg 0 r)
def formW (w : Str) (r : List Dd) : Bool :=
  if w = "num" then fNum r else if w = "var" then fVar r else if w = "app" then fApp r else if w = "lam" then fLam r else if w = "let" then fLet r else if w = "seq" then fSeq r
  else if w = "con" then fCon r else if w = "case" then fCase r else if w = "pick" then fPick r else if w = "prim" then fPrim r else if w = "note" then fNote r else false
def formB : Dd → Bool
  | .tup (.str w :: r) => formW w r
  | _ => false
def dfltP (d : Dd) : List Dd := match d with
  | .non => []
  | d => [nth 1 d]
def lastD : Dd → Dd
  | .tup l => l.getLastD .non
  | _ => .non
def gLet (r : List Dd) : List Dd := (tl (arg 0 r)).map (nth 1) ++ [arg 1 r]
def gChoice (r : List Dd) : List Dd := arg 0 r :: ((tl (arg 1 r)).map lastD ++ dfltP (arg 2 r))
def partsW (w : Str) (r : List Dd) : List Dd :=
  if w = "app" then r else if w = "lam" then [arg 1 r] else if w = "let" then gLet r else if w = "seq" then r.drop 1
  else if w = "con" then tl (arg 1 r) else if w = "case" then gChoice r else if w = "pick" then gChoice r
  else if w = "prim" then r.drop 1 else if w = "note" then [arg 1 r] else []
def partsD : Dd → List Dd
  | .tup (.str w :: r) => partsW w r
  | _ => []
def isT : Nat → Dd → Bool
  | 0, _ => false
  | n + 1, k => formB k && (partsD k).all (isT n)
end Toy

set_option Elab.async false
set_option linter.all false
set_option maxRecDepth 100000
set_option maxHeartbeats 4000000
/-! Part C: names, numbers, rows. -/
namespace Toy
open PySem L2
open PyProof.Rows (envOfC)
theorem boot_ord : bootBuiltins "ord" = some (.builtin "ord") := by decide +kernel
theorem boot_all : bootBuiltins "all" = some (.builtin "all") := by decide +kernel
theorem boot_bool : bootBuiltins "bool" = some (.type "bool") := by decide +kernel
theorem boot_str : bootBuiltins "str" = some (.type "str") := by decide +kernel
theorem boot_tuple : bootBuiltins "tuple" = some (.type "tuple") := by decide +kernel
def Dd.tyN : Dd → String
  | .non => "NoneType"
  | .bl _ => "bool"
  | .int _ => "int"
  | .str _ => "str"
  | .tup _ => "tuple"
  | .lst _ => "list"
theorem ty_of {K : PySem.W.Frag} {B : Addr → Prop} {H : Hp} {k : Dd} {v : V} (h : k.At B H v) : TyX K H v (.type k.tyN) := by
  cases k with
  | non => cases h; exact .base .non
  | bl b => cases h; exact .base (.bl b)
  | int i => cases h; exact .base (.int i)
  | str s => cases h.1; exact .base (.str s)
  | tup l => obtain ⟨a, xs, rfl, ha, _⟩ := h; exact .base (.tup ha)
  | lst l => obtain ⟨a, xs, rfl, _, ha, _⟩ := h; exact .base (.lst ha)
def isStr : Dd → Bool
  | .str _ => true
  | _ => false
def isBool : Dd → Bool
  | .bl _ => true
  | _ => false
def isIntB : Dd → Bool
  | .int _ => true
  | .bl _ => true
  | _ => false
theorem kit_str {K : PySem.W.Frag} (k : Dd) : PySem.W.kitOne K (.type k.tyN) (.type "str") = some (isStr k) := by
  cases k with
  | non => exact kit_ty (a := "NoneType") (b := "str") (r := false) (by decide +kernel)
  | bl b => exact kit_ty (a := "bool") (b := "str") (r := false) (by decide +kernel)
  | int i => exact kit_ty (a := "int") (b := "str") (r := false) (by decide +kernel)
  | str s => exact kit_ty (a := "str") (b := "str") (r := true) (by decide +kernel)
  | tup l => exact kit_ty (a := "tuple") (b := "str") (r := false) (by decide +kernel)
  | lst l => exact kit_ty (a := "list") (b := "str") (r := false) (by decide +kernel)
theorem kit_tup {K : PySem.W.Frag} (k : Dd) : PySem.W.kitOne K (.type k.tyN) (.type "tuple") = some (isTup k) := by
  cases k with
  | non => exact kit_ty (a := "NoneType") (b := "tuple") (r := false) (by decide +kernel)
  | bl b => exact kit_ty (a := "bool") (b := "tuple") (r := false) (by decide +kernel)
  | int i => exact kit_ty (a := "int") (b := "tuple") (r := false) (by decide +kernel)
  | str s => exact kit_ty (a := "str") (b := "tuple") (r := false) (by decide +kernel)
  | tup l => exact kit_ty (a := "tuple") (b := "tuple") (r := true) (by decide +kernel)
  | lst l => exact kit_ty (a := "list") (b := "tuple") (r := false) (by decide +kernel)
theorem kit_int {K : PySem.W.Frag} (k : Dd) : PySem.W.kitOne K (.type k.tyN) (.type "int") = some (isIntB k) := by
  cases k with
  | non => exact kit_ty (a := "NoneType") (b := "int") (r := false) (by decide +kernel)
  | bl b => exact kit_ty (a := "bool") (b := "int") (r := true) (by decide +kernel)
  | int i => exact kit_ty (a := "int") (b := "int") (r := true) (by decide +kernel)
  | str s => exact kit_ty (a := "str") (b := "int") (r := false) (by decide +kernel)
  | tup l => exact kit_ty (a := "tuple") (b := "int") (r := false) (by decide +kernel)
  | lst l => exact kit_ty (a := "list") (b := "int") (r := false) (by decide +kernel)
theorem kit_bool {K : PySem.W.Frag} (k : Dd) : PySem.W.kitOne K (.type k.tyN) (.type "bool") = some (isBool k) := by
  cases k with
  | non => exact kit_ty (a := "NoneType") (b := "bool") (r := false) (by decide +kernel)
  | bl b => exact kit_ty (a := "bool") (b := "bool") (r := true) (by decide +kernel)
  | int i => exact kit_ty (a := "int") (b := "bool") (r := false) (by decide +kernel)
  | str s => exact kit_ty (a := "str") (b := "bool") (r := false) (by decide +kernel)
  | tup l => exact kit_ty (a := "tuple") (b := "bool") (r := false) (by decide +kernel)
  | lst l => exact kit_ty (a := "list") (b := "bool") (r := false) (by decide +kernel)
theorem inV_strs (z : Str) : ∀ l : List Str, inV (.str z) (l.map V.str) = decide (z ∈ l)
  | [] => rfl
  | a :: l => by
    show ((a == z) || inV (.str z) (l.map V.str)) = _
    rw [inV_strs z l]
    by_cases e : a = z
    · subst e
      simp
    · rw [beq_eq_false_iff_ne.mpr e, Bool.false_or]
      exact decide_eq_decide.mpr ⟨fun h => List.mem_cons_of_mem _ h, fun h => (List.mem_cons.mp h).resolve_left fun z => e z.symm⟩
theorem chainV {σ : L2.St} {H : Hp} {Q : VK} {a n c : Int} {ta tb tc : TE} (ha : ∀ R : VK, R (.int a) H → ta σ H R) (hb : ∀ R : VK, R (.int n) H → tb σ H R) (hc : ∀ R : VK, R (.int c) H → tc σ H R) (h : Q (.bl (decide (a ≤ n) && decide (n ≤ c))) H) :
    tChain (rI0 fun i j => V.bl (decide (i ≤ j))) (rI0 fun i j => V.bl (decide (i ≤ j))) ta tb tc σ H Q := by
  refine ha _ (hb _ ⟨_, _, rfl, rfl, _, rfl, ?_⟩)
  cases e : decide (a ≤ n) with
  | true =>
    rw [e, Bool.true_and] at h
    refine iteT (hc _ ⟨_, _, rfl, rfl, h⟩)
  | false =>
    rw [e, Bool.false_and] at h
    exact iteF h
def codeOk (c : Nat) : Bool := decide (33 ≤ c) && decide (c ≤ 126) && decide (c ≠ 37)
theorem code_read {σ : L2.St} {H : Hp} {Q : VK} {i : Nat} (c : Nat) (hs : σ[i]? = some (some (.int (c : Int)))) (h : Q (.bl (codeOk c)) H) :
    tAndV (tChain (rI0 fun i j => V.bl (decide (i ≤ j))) (rI0 fun i j => V.bl (decide (i ≤ j))) (tC (V.int 33)) (tVar i) (tC (V.int 126))) (tOp rNe (tVar i) (tC (V.int 37))) σ H Q := by
  refine chainV (a := 33) (n := (c : Int)) (c := 126) (fun R hR => hR) (fun R hR => ⟨_, hs, hR⟩) (fun R hR => hR) ?_
  refine ⟨_, rfl, ?_⟩
  have e1 : codeOk c = ((decide ((33 : Int) ≤ (c : Int)) && decide ((c : Int) ≤ 126)) && !decide (V.int (c : Int) = V.int 37)) := by
    unfold codeOk
    congr 1
    · congr 1
      · exact decide_eq_decide.mpr (by omega)
      · exact decide_eq_decide.mpr (by omega)
    · by_cases z : c = 37
      · subst z
        decide
      · rw [decide_eq_true z, decide_eq_false (fun y => z (by have := V.int.inj y; omega))]
        rfl
  rw [e1] at h
  cases hb : (decide ((33 : Int) ≤ (c : Int)) && decide ((c : Int) ≤ 126)) with
  | true =>
    rw [hb, Bool.true_and] at h
    refine iteT ?_
    exact ⟨_, hs, rfl, h⟩
  | false =>
    rw [hb, Bool.false_and] at h
    exact iteF h
structure TxtF (K : PySem.W.Frag) (mg : Str → Option Value) (aS : Addr) : Prop where
  zisinstance : mg "isinstance" = none
  zint : mg "int" = none
  zstr : mg "str" = none
  zbool : mg "bool" = none
  ztuple : mg "tuple" = none
  zlen : mg "len" = none
  zord : mg "ord" = none
  zall : mg "all" = none
  gLONGEST_NAME : ∃ u, mg "LONGEST_NAME" = some u ∧ RelV (.int 80) u
  gLARGEST_NUMBER : ∃ u, mg "LARGEST_NUMBER" = some u ∧ RelV (.int 1000000000000000) u
  gLARGEST_TAG : ∃ u, mg "LARGEST_TAG" = some u ∧ RelV (.int 1000) u
  gLARGEST_NOTE : ∃ u, mg "LARGEST_NOTE" = some u ∧ RelV (.int 1000000000000) u
  gFIRST_CODE : ∃ u, mg "FIRST_CODE" = some u ∧ RelV (.int 33) u
  gLAST_CODE : ∃ u, mg "LAST_CODE" = some u ∧ RelV (.int 126) u
  gPERCENT_CODE : ∃ u, mg "PERCENT_CODE" = some u ∧ RelV (.int 37) u
  gSIGNS : ∃ u, mg "SIGNS" = some u ∧ RelV (.ref aS) u
  kSIGNS : ∀ H : Hp, SqT K H aS (signs.map V.str)
section
variable {P : Program} {w : World} {K : PySem.W.Frag} {mg : Str → Option Value} {base : Heap} {aS : Addr}
/-- a def that tells something of a thing -/
def spB (g : Dd → Bool) (P : Dd → Prop) : Sp := fun vs H Q _ => ∃ (B : Addr → Prop) (v : V) (k : Dd), vs = [v] ∧ k.At B H v ∧ P k ∧ ∀ H', Same H H' → Q (.bl (g k)) H'
def spNumber : Sp := fun vs H Q _ => ∃ (B : Addr → Prop) (v : V) (k : Dd) (lo hi : Int), vs = [v, .int lo, .int hi] ∧ k.At B H v ∧ ∀ H', Same H H' → Q (.bl (numIn lo hi k)) H'
def spRow (g : Nat → Dd → Bool) : Sp := fun vs H Q _ => ∃ (B : Addr → Prop) (v : V) (k : Dd) (n : Nat), vs = [v, .int (n : Int)] ∧ k.At B H v ∧ k.sz ≤ 1000000 ∧ ∀ H', Same H H' → Q (.bl (g n k)) H'
end
end Toy

set_option Elab.async false
set_option linter.all false
set_option maxRecDepth 100000
set_option maxHeartbeats 4000000
/-! Part D: rows of different names; the forms of terms. -/
namespace Toy
open PySem L2
open PyProof.Rows (envOfC)
theorem ddK_snoc : ∀ (acc ks : List Key) (k : Key), ddK acc (ks ++ [k]) = if ((ddK acc ks).any fun j => decide (j = k)) = true then ddK acc ks else ddK acc ks ++ [k]
  | acc, [], k => rfl
  | acc, j :: ks, k => ddK_snoc _ ks k
theorem putK_keys (kvs : List (Key × V)) (k : Key) (v : V) : (putK kvs k v).map (·.1) = if ((kvs.map (·.1)).any fun j => decide (j = k)) = true then kvs.map (·.1) else kvs.map (·.1) ++ [k] := by
  unfold putK
  rw [List.any_map]
  by_cases h : (kvs.any fun kv => decide (kv.1 = k)) = true
  · rw [if_pos h, if_pos (by exact h), List.map_map]
    refine List.map_congr_left fun p hp => ?_
    show (if p.1 = k then (p.1, v) else p).1 = p.1
    split <;> rfl
  · rw [if_neg h, if_neg (by exact h), List.map_append]
    rfl
theorem ddK_len : ∀ (acc ks : List Key), (ddK acc ks).length ≤ acc.length + ks.length
  | acc, [] => Nat.le_refl _
  | acc, k :: ks => by
    have h := ddK_len (if (acc.any fun j => decide (j = k)) = true then acc else acc ++ [k]) ks
    have e : (if (acc.any fun j => decide (j = k)) = true then acc else acc ++ [k]).length ≤ acc.length + 1 := by
      split
      · omega
      · rw [List.length_append]; exact Nat.le_refl _
    show (ddK _ ks).length ≤ acc.length + (ks.length + 1)
    omega
/-- a text or a whole number -/
def isKey : Dd → Bool
  | .str _ => true
  | .int _ => true
  | _ => false
theorem key_at {B : Addr → Prop} {H : Hp} {k : Dd} {v : V} (h : k.At B H v) (hk : isKey k = true) : v = kV (keyD k) := by
  cases k with
  | str s => exact h.1
  | int i => exact h
  | bl b => cases hk
  | non => cases hk
  | tup l => cases hk
  | lst l => cases hk
theorem int_dec (a b : Nat) : decide (V.int (a : Int) = V.int (b : Int)) = decide (a = b) := decide_eq_decide.mpr ⟨fun e => by have := V.int.inj e; omega, fun e => by rw [e]⟩
theorem name_key {k : Dd} (h : isName k = true) : isKey k = true := by
  cases k with
  | str s => rfl
  | int i => rfl
  | bl b => cases h
  | non => cases h
  | tup l => cases h
  | lst l => cases h
theorem num_key {k : Dd} {lo hi : Int} (h : numIn lo hi k = true) : isKey k = true := by
  cases k with
  | str s => rfl
  | int i => rfl
  | bl b => cases h
  | non => cases h
  | tup l => cases h
  | lst l => cases h
theorem ne_non {B : Addr → Prop} {H : Hp} {k : Dd} {v : V} (h : k.At B H v) (hk : k ≠ .non) : v ≠ .non := by
  cases k with
  | non => exact absurd rfl hk
  | bl b => cases h; exact fun z => by cases z
  | int i => cases h; exact fun z => by cases z
  | str s => cases h.1; exact fun z => by cases z
  | tup l => obtain ⟨a, xs, rfl, _⟩ := h; exact fun z => by cases z
  | lst l => obtain ⟨a, xs, rfl, _⟩ := h; exact fun z => by cases z
theorem dflt_eq {k : Dd} (hk : k ≠ .non) : isDflt k = (isRow 2 k && isName (nth 0 k)) := by
  cases k with
  | non => exact absurd rfl hk
  | bl b => rfl
  | int i => rfl
  | str s => rfl
  | tup l => rfl
  | lst l => rfl
/-- the i-th thing behind the first -/
theorem arg_at {B : Addr → Prop} {H : Hp} {v0 : V} {r : List Dd} {ys : List V} (h : Dd.Ats B H r ys) {i : Nat} (hi : i < r.length) : ∃ x, atI (v0 :: ys) ((i + 1 : Nat) : Int) = some x ∧ (arg i r).At B H x := by
  obtain ⟨x, hx, hxa⟩ := ats_getI h (List.getElem?_eq_getElem hi)
  refine ⟨x, atI_nat (xs := v0 :: ys) (j := i + 1) (by rw [List.getElem?_cons_succ]; exact hx), ?_⟩
  unfold arg
  rw [List.getD_eq_getElem?_getD, List.getElem?_eq_getElem hi]
  exact hxa
theorem nth_at {B : Addr → Prop} {H : Hp} {l : List Dd} {ys : List V} (h : Dd.Ats B H l ys) {i : Nat} (hi : i < l.length) : ∃ x, atI ys (i : Int) = some x ∧ (nth i (.tup l)).At B H x := by
  obtain ⟨x, hx, hxa⟩ := ats_getI h (List.getElem?_eq_getElem hi)
  refine ⟨x, atI_nat hx, ?_⟩
  show (l.getD i .non).At B H x
  rw [List.getD_eq_getElem?_getD, List.getElem?_eq_getElem hi]
  exact hxa
section
variable {P : Program} {w : World} {K : PySem.W.Frag} {mg : Str → Option Value} {base : Heap} {aS : Addr}
def spDiffT : Sp := fun vs H Q _ => ∃ (B : Addr → Prop) (a : Addr) (l : List Dd) (xs : List V), vs = [.ref a] ∧ H a = some (.tup xs) ∧ Dd.Ats B H l xs ∧ (∀ k ∈ l, isKey k = true) ∧ l.length ≤ 1000000 ∧ ∀ H', Same H H' → Q (.bl (distK (l.map keyD))) H'
def spDiffL : Sp := fun vs H Q _ => ∃ (B : Addr → Prop) (a : Addr) (l : List Dd) (xs : List V), vs = [.ref a] ∧ H a = some (.lst xs) ∧ Dd.Ats B H l xs ∧ (∀ k ∈ l, isKey k = true) ∧ l.length ≤ 1000000 ∧ ∀ H', Same H H' → Q (.bl (distK (l.map keyD))) H'
end
end Toy

set_option Elab.async false
set_option linter.all false
set_option maxRecDepth 100000
set_option maxHeartbeats 4000000
/-! Part E: the forms of terms. -/
namespace Toy
open PySem L2
open PyProof.Rows (envOfC)
theorem head_at {B : Addr → Prop} {H : Hp} {w : Str} {r : List Dd} {v : V} (h : (Dd.tup (.str w :: r)).At B H v) : ∃ a ys, v = .ref a ∧ H a = some (.tup (.str w :: ys)) ∧ Dd.Ats B H r ys ∧ ys.length = r.length ∧ w.length ≤ 1000 := by
  obtain ⟨a, xs, rfl, ha, x, ys, rfl, ⟨hx, hw⟩, hs⟩ := h
  cases hx
  exact ⟨a, ys, rfl, ha, hs, ats_len hs, hw⟩
theorem len_is {w : Str} {ys : List V} {r : List Dd} (h : ys.length = r.length) (n : Nat) : decide (V.int (((V.str w :: ys).length : Nat) : Int) = V.int ((n + 1 : Nat) : Int)) = decide (r.length = n) := by
  rw [int_dec, List.length_cons, h]
  exact decide_eq_decide.mpr (by omega)
theorem len_ne {w : Str} {ys : List V} {r : List Dd} (h : ys.length = r.length) (n : Nat) : (!decide (V.int (((V.str w :: ys).length : Nat) : Int) = V.int ((n + 1 : Nat) : Int))) = !decide (r.length = n) := by rw [len_is h]
theorem arg_sz {w : Str} {r : List Dd} (i : Nat) : (arg i r).sz ≤ (Dd.tup (.str w :: r)).sz := by
  unfold arg
  rw [List.getD_eq_getElem?_getD]
  show _ ≤ 1 + (1 + Dd.szs r)
  cases h : r[i]? with
  | none => show 1 ≤ _; omega
  | some k =>
    have := szs_mem (List.mem_of_getElem? h)
    show k.sz ≤ _
    omega
theorem rows_of {n : Nat} {k : Dd} (h : areRows n k = true) : ∃ l, k = .tup l ∧ ∀ q ∈ l, ∃ m, q = .tup m ∧ m.length = n := by
  cases k with
  | tup l =>
    refine ⟨l, rfl, fun q hq => ?_⟩
    have hr := List.all_eq_true.mp (show l.all (isRow n) = true from h) q hq
    cases q with
    | tup m => exact ⟨m, rfl, of_decide_eq_true hr⟩
    | int i => cases hr
    | bl b => cases hr
    | non => cases hr
    | str s => cases hr
    | lst l => cases hr
  | int i => cases h
  | bl b => cases h
  | non => cases h
  | str s => cases h
  | lst l => cases h
theorem pair_at {B : Addr → Prop} {H : Hp} {m : List Dd} {v : V} (h : (Dd.tup m).At B H v) (hl : m.length = 2) : ∃ t x y, v = .ref t ∧ H t = some (.tup [x, y]) ∧ (nth 0 (.tup m)).At B H x ∧ (nth 1 (.tup m)).At B H y := by
  match m, hl with
  | [a, b], _ =>
    obtain ⟨t, xs, rfl, ht, x, zs, rfl, hx, y, us, rfl, hy, hz⟩ := h
    cases hz
    exact ⟨t, x, y, rfl, ht, hx, hy⟩
theorem three_at {B : Addr → Prop} {H : Hp} {m : List Dd} {v : V} (h : (Dd.tup m).At B H v) (hl : m.length = 3) : ∃ t x y z, v = .ref t ∧ H t = some (.tup [x, y, z]) ∧ (nth 0 (.tup m)).At B H x ∧ (nth 1 (.tup m)).At B H y ∧ (nth 2 (.tup m)).At B H z := by
  match m, hl with
  | [a, b, c], _ =>
    obtain ⟨t, xs, rfl, ht, x, zs, rfl, hx, y, us, rfl, hy, z, vs, rfl, hz, he⟩ := h
    cases he
    exact ⟨t, x, y, z, rfl, ht, hx, hy, hz⟩
theorem nth_sz (i : Nat) (k : Dd) : (nth i k).sz ≤ k.sz := by
  cases k with
  | tup l =>
    show (l.getD i .non).sz ≤ 1 + Dd.szs l
    rw [List.getD_eq_getElem?_getD]
    cases h : l[i]? with
    | none => show 1 ≤ _; omega
    | some q =>
      have := szs_mem (List.mem_of_getElem? h)
      show q.sz ≤ _
      omega
  | int i => exact sz_pos _
  | bl b => exact sz_pos _
  | non => exact sz_pos _
  | str s => exact sz_pos _
  | lst l => exact sz_pos _
theorem nths_sz (i : Nat) : ∀ l : List Dd, Dd.szs (l.map (nth i)) ≤ Dd.szs l
  | [] => Nat.le_refl _
  | k :: l => by
    have h1 := nth_sz i k
    have h2 := nths_sz i l
    show (nth i k).sz + Dd.szs (l.map (nth i)) ≤ k.sz + Dd.szs l
    omega
theorem big : (1000000 : Nat) < sizeLine := by decide
section
variable {P : Program} {w : World} {K : PySem.W.Frag} {mg : Str → Option Value} {base : Heap} {aS : Addr}
/-- a def that tells whether a row has one form -/
def spForm (g : List Dd → Bool) : Sp := fun vs H Q _ => ∃ (B : Addr → Prop) (v : V) (w : Str) (r : List Dd), vs = [v] ∧ (Dd.tup (.str w :: r)).At B H v ∧ (Dd.tup (.str w :: r)).sz ≤ 1000000 ∧ ∀ H', Same H H' → Q (.bl (g r)) H'
end
end Toy

set_option Elab.async false
set_option linter.all false
set_option maxRecDepth 100000
set_option maxHeartbeats 4000000
/-! Part F: whether something has a form; the parts of a term. -/
namespace Toy
open PySem L2
open PyProof.Rows (envOfC)
def words : List Str := ["num", "var", "app", "lam", "let", "seq", "con", "case", "pick", "prim", "note"]
theorem form_out {z : Str} (h : z ∉ words) (r : List Dd) : formW z r = false := by
  simp only [words, List.mem_cons, List.not_mem_nil, or_false, not_or] at h
  obtain ⟨h1, h2, h3, h4, h5, h6, h7, h8, h9, h10, h11⟩ := h
  unfold formW
  rw [if_neg h1, if_neg h2, if_neg h3, if_neg h4, if_neg h5, if_neg h6, if_neg h7, if_neg h8, if_neg h9, if_neg h10, if_neg h11]
theorem cut_from (xs : List V) (k : Nat) (h : k ≤ xs.length) : cutV xs (some (k : Int)) none = xs.drop k := by
  unfold cutV
  rw [HT.sIx_none, HT.sIx_nat, Nat.min_eq_left h]
  exact List.take_of_length_le (by rw [List.length_drop]; exact Nat.le_refl _)
theorem cut_no1 (k n d : Nat) (h : 0 < min k n) : ¬ HT.sIx n d (some (k : Int)) = 0 := by
  rw [HT.sIx_nat]
  omega
theorem ats_drop {B : Addr → Prop} {H : Hp} : ∀ {l : List Dd} {xs : List V}, Dd.Ats B H l xs → Dd.Ats B H (l.drop 1) (xs.drop 1)
  | [], _, h => by cases h; rfl
  | k :: l, _, ⟨x, ys, e, h, hs⟩ => by cases e; exact hs
structure TxtM (P : Program) (w : World) (K : PySem.W.Frag) (mg : Str → Option Value) (base : Heap) (aF : Addr) (es : Array DictEntry) (n : Nat) (sF : Addr → Option Sp) : Prop where
  zisinstance : mg "isinstance" = none
  ztuple : mg "tuple" = none
  zstr : mg "str" = none
  zlen : mg "len" = none
  kF : KDict K w aF es n
  gFORMS : ∃ u, mg "FORMS" = some u ∧ RelV (.ref aF) u
  formIn : ∀ z ∈ words, ∃ f, PySem.W.nsIn K aF z = some (some (.ref f)) ∧ sF f = some (spForm (formW z))
  formOut : ∀ z, z ∉ words → PySem.W.nsIn K aF z = some none
  heldF : ∀ f sp, sF f = some sp → Held P w K mg base 4 f sp
section
variable {P : Program} {w : World} {K : PySem.W.Frag} {mg : Str → Option Value} {base : Heap} {aF : Addr} {es : Array DictEntry} {n : Nat} {sF : Addr → Option Sp}
/-- a def that gives the parts of one form -/
def spPart (C : List Dd → Prop) (g : List Dd → List Dd) : Sp := fun vs H Q _ => ∃ (B : Addr → Prop) (v : V) (w : Str) (r : List Dd), vs = [v] ∧ (Dd.tup (.str w :: r)).At B H v ∧ (Dd.tup (.str w :: r)).sz ≤ 1000000 ∧ C r ∧ ∀ (b : Addr) (xs : List V) (H' : Hp), Same H H' → H' b = some (.tup xs) → Dd.Ats B H' (g r) xs → Q (.ref b) H'
abbrev sPApp : Stmt := topS 9
theorem scPApp : FnScope ["term"] ["term"] (defScope sPApp) := ⟨rfl, rfl, rfl, by decide +kernel, rfl, by decide +kernel, by decide +kernel⟩
theorem c_PApp {f : Addr} {fd : FuncData} (F : Fun K "_app_parts" "_app_parts" sPApp f fd) (b : Binds K fd ["term"] []) (hm : mg "_app_parts" = some (.ref f)) : C8.Cal P w K mg base 2 "_app_parts" (spPart (fun r => r.length = 2) fun r => r) [] := by
  refine cal_of F hm b scPApp (fun vs H Q E h => ?_) (fun cdv A outer s H vs Q E hr h => ?_)
  · obtain ⟨B, v, w', r, rfl, _⟩ := h
    rfl
  obtain ⟨B, v, w', r, rfl, hat, hsz, hc, q⟩ := h
  refine ⟨_, (pss_one (ps_ret (pe_slice sl_tupA (pv 0) (po_some pe_int) po_none))), ?_⟩
  obtain ⟨a, ys, rfl, ha, hs, hyl, hw⟩ := head_at hat
  refine ⟨_, rfl, _, rfl, a, _, rfl, SqT.of ha, fun h => absurd h.1 (cut_no1 1 _ _ (by rw [List.length_cons]; omega)), fun _ p hp => ?_⟩
  rw [show cutV (V.str w' :: ys) (some 1) none = ys from cut_from (.str w' :: ys) 1 (by rw [List.length_cons]; omega)]
  exact q p ys _ (same_new hp _) upd_same (hs.keep (fr_same (same_new hp _)))
abbrev sPLater : Stmt := topS 10
theorem scPLater : FnScope ["term"] ["term"] (defScope sPLater) := ⟨rfl, rfl, rfl, by decide +kernel, rfl, by decide +kernel, by decide +kernel⟩
theorem c_PLater {f : Addr} {fd : FuncData} (F : Fun K "_later_parts" "_later_parts" sPLater f fd) (b : Binds K fd ["term"] []) (hm : mg "_later_parts" = some (.ref f)) : C8.Cal P w K mg base 2 "_later_parts" (spPart (fun r => r.length = 3) fun r => r.drop 1) [] := by
  refine cal_of F hm b scPLater (fun vs H Q E h => ?_) (fun cdv A outer s H vs Q E hr h => ?_)
  · obtain ⟨B, v, w', r, rfl, _⟩ := h
    rfl
  obtain ⟨B, v, w', r, rfl, hat, hsz, hc, q⟩ := h
  refine ⟨_, (pss_one (ps_ret (pe_slice sl_tupA (pv 0) (po_some pe_int) po_none))), ?_⟩
  obtain ⟨a, ys, rfl, ha, hs, hyl, hw⟩ := head_at hat
  refine ⟨_, rfl, _, rfl, a, _, rfl, SqT.of ha, fun h => absurd h.1 (cut_no1 2 _ _ (by rw [List.length_cons]; omega)), fun _ p hp => ?_⟩
  rw [show cutV (V.str w' :: ys) (some 2) none = ys.drop 1 from cut_from (.str w' :: ys) 2 (by rw [List.length_cons]; omega)]
  exact q p (ys.drop 1) _ (same_new hp _) upd_same ((ats_drop hs).keep (fr_same (same_new hp _)))
abbrev sPLam : Stmt := topS 7
theorem scPLam : FnScope ["term"] ["term"] (defScope sPLam) := ⟨rfl, rfl, rfl, by decide +kernel, rfl, by decide +kernel, by decide +kernel⟩
theorem c_PLam {f : Addr} {fd : FuncData} (F : Fun K "_lam_body" "_lam_body" sPLam f fd) (b : Binds K fd ["term"] []) (hm : mg "_lam_body" = some (.ref f)) : C8.Cal P w K mg base 2 "_lam_body" (spPart (fun r => r.length = 2) fun r => [arg 1 r]) [] := by
  refine cal_of F hm b scPLam (fun vs H Q E h => ?_) (fun cdv A outer s H vs Q E hr h => ?_)
  · obtain ⟨B, v, w', r, rfl, _⟩ := h
    rfl
  obtain ⟨B, v, w', r, rfl, hat, hsz, hc, q⟩ := h
  refine ⟨_, (pss_one (ps_ret (pe_tup (pa_cons (pe_ix ix_tup (pv 0) pe_int (fun _ _ => rfl)) pa_nil)))), ?_⟩
  obtain ⟨a, ys, rfl, ha, hs, hyl, hw⟩ := head_at hat
  obtain ⟨x, hx, hxa⟩ := arg_at (v0 := .str w') hs (i := 1) (by omega)
  refine ⟨_, rfl, a, _, 2, _, rfl, rfl, SqT.of ha, hx, by show 1 ≤ sizeLine; decide, fun t ht => ?_⟩
  exact q t [x] _ (same_new ht _) upd_same (ats_one (hxa.keep (fr_same (same_new ht _))))
abbrev sPNote : Stmt := topS 8
theorem scPNote : FnScope ["term"] ["term"] (defScope sPNote) := ⟨rfl, rfl, rfl, by decide +kernel, rfl, by decide +kernel, by decide +kernel⟩
theorem c_PNote {f : Addr} {fd : FuncData} (F : Fun K "_note_parts" "_note_parts" sPNote f fd) (b : Binds K fd ["term"] []) (hm : mg "_note_parts" = some (.ref f)) : C8.Cal P w K mg base 2 "_note_parts" (spPart (fun r => r.length = 2) fun r => [arg 1 r]) [] := by
  refine cal_of F hm b scPNote (fun vs H Q E h => ?_) (fun cdv A outer s H vs Q E hr h => ?_)
  · obtain ⟨B, v, w', r, rfl, _⟩ := h
    rfl
  obtain ⟨B, v, w', r, rfl, hat, hsz, hc, q⟩ := h
  refine ⟨_, (pss_one (ps_ret (pe_tup (pa_cons (pe_ix ix_tup (pv 0) pe_int (fun _ _ => rfl)) pa_nil)))), ?_⟩
  obtain ⟨a, ys, rfl, ha, hs, hyl, hw⟩ := head_at hat
  obtain ⟨x, hx, hxa⟩ := arg_at (v0 := .str w') hs (i := 1) (by omega)
  refine ⟨_, rfl, a, _, 2, _, rfl, rfl, SqT.of ha, hx, by show 1 ≤ sizeLine; decide, fun t ht => ?_⟩
  exact q t [x] _ (same_new ht _) upd_same (ats_one (hxa.keep (fr_same (same_new ht _))))
abbrev sPCon : Stmt := topS 11
theorem scPCon : FnScope ["term"] ["term"] (defScope sPCon) := ⟨rfl, rfl, rfl, by decide +kernel, rfl, by decide +kernel, by decide +kernel⟩
theorem c_PCon {f : Addr} {fd : FuncData} (F : Fun K "_con_parts" "_con_parts" sPCon f fd) (b : Binds K fd ["term"] []) (hm : mg "_con_parts" = some (.ref f)) : C8.Cal P w K mg base 2 "_con_parts" (spPart (fun r => r.length = 2 ∧ isTup (arg 1 r) = true) fun r => tl (arg 1 r)) [] := by
  refine cal_of F hm b scPCon (fun vs H Q E h => ?_) (fun cdv A outer s H vs Q E hr h => ?_)
  · obtain ⟨B, v, w', r, rfl, _⟩ := h
    rfl
  obtain ⟨B, v, w', r, rfl, hat, hsz, ⟨hc, hc2⟩, q⟩ := h
  refine ⟨_, (pss_one (ps_ret (pe_ix ix_tup (pv 0) pe_int (fun _ _ => rfl)))), ?_⟩
  obtain ⟨a, ys, rfl, ha, hs, hyl, hw⟩ := head_at hat
  obtain ⟨x, hx, hxa⟩ := arg_at (v0 := .str w') hs (i := 1) (by omega)
  cases hk : arg 1 r with
  | tup l =>
    rw [hk] at hxa
    obtain ⟨b2, xs2, rfl, hb, hbs⟩ := hxa
    refine ⟨_, rfl, a, _, 2, _, rfl, rfl, SqT.of ha, hx, q b2 xs2 H (fun _ _ e => e) hb ?_⟩
    show Dd.Ats B H (tl (arg 1 r)) xs2
    rw [hk]
    exact hbs
  | int i => rw [hk] at hc2; cases hc2
  | bl b => rw [hk] at hc2; cases hc2
  | non => rw [hk] at hc2; cases hc2
  | str s => rw [hk] at hc2; cases hc2
  | lst l => rw [hk] at hc2; cases hc2
/-- pairs, in a tuple -/
def PairsD (k : Dd) : Prop := ∃ l, k = .tup l ∧ ∀ q ∈ l, ∃ m, q = .tup m ∧ m.length = 2
abbrev sPLet : Stmt := topS 12
theorem scPLet : FnScope ["term", "_", "inner"] ["term"] (defScope sPLet) := ⟨rfl, rfl, rfl, by decide +kernel, rfl, by decide +kernel, by decide +kernel⟩
theorem c_PLet {f : Addr} {fd : FuncData} (F : Fun K "_let_parts" "_let_parts" sPLet f fd) (b : Binds K fd ["term"] []) (hm : mg "_let_parts" = some (.ref f)) : C8.Cal P w K mg base 2 "_let_parts" (spPart (fun r => r.length = 2 ∧ PairsD (arg 0 r)) gLet) [] := by
  refine cal_of F hm b scPLet (fun vs H Q E h => ?_) (fun cdv A outer s H vs Q E hr h => ?_)
  · obtain ⟨B, v, w', r, rfl, _⟩ := h
    rfl
  obtain ⟨B, v, w', r, rfl, hat, hsz, ⟨hc, l, el, hrows⟩, q⟩ := h
  refine ⟨_, (pss_one (ps_ret (pe_tup (StX.pa_star (pe_lc (own := [("_", 1), ("inner", 2)]) (g := gTup K 2 (gCons (gName 1) (gCons (gName 2) (gNil)))) (tt := tYes) rfl scPLet.nd (pi_tup (pe_ix ix_tup (pv 0) pe_int (fun _ _ => rfl))) (blkOk_by (own := [("_", 1), ("inner", 2)]) (N := ["term", "_", "inner"]) (sc := defScope sPLet) (by decide +kernel)) (fun _ _ _ _ _ => (pg_tup rfl (pgs_cons (pg_name (i := 1) scPLet.nd rfl (Or.inl rfl)) (pgs_cons (pg_name (i := 2) scPLet.nd rfl (Or.inl rfl)) pgs_nil)))) (fun _ _ _ _ _ => pts_nil) (fun _ _ _ _ _ => (pv 2))) (pa_cons (pe_ix ix_tup (pv 0) pe_int (fun _ _ => rfl)) pa_nil))))), ?_⟩
  obtain ⟨a, ys, rfl, ha, hs, hyl, hw⟩ := head_at hat
  obtain ⟨x, hx, hxa⟩ := arg_at (v0 := .str w') hs (i := 0) (by omega)
  obtain ⟨y, hy, hya⟩ := arg_at (v0 := .str w') hs (i := 1) (by omega)
  have hz := arg_sz (w := w') (r := r) 0
  rw [el] at hxa hz
  obtain ⟨b2, xs2, rfl, hb, hbs⟩ := hxa
  have hxl := ats_len hbs
  have hlz := szs_len l
  have hz : 1 + Dd.szs l ≤ _ := hz
  refine ⟨_, rfl, a, _, 1, _, rfl, rfl, SqT.of ha, hx, b2, rfl, ⟨_, SqT.of hb⟩, fun D hD => ?_⟩
  refine lc_tup (K := K) (a := b2) (xs := xs2) (fun i G => Same H G ∧ ∃ zs, G D = some (.lst zs) ∧ Dd.Ats B H ((l.take i).map (nth 1)) zs) ⟨same_new hD _, [], upd_same, rfl⟩ (fun i G hi ⟨h1, _⟩ => SqT.of (h1 _ _ hb)) ?_ ?_
  · rintro i x G hx ⟨h1, zs, h2, h3⟩
    obtain ⟨k, hk, hkat⟩ := ats_get hbs hx
    have hil : i < l.length := (List.getElem?_eq_some_iff.mp hk).1
    obtain ⟨m, rfl, hm2⟩ := hrows k (List.mem_of_getElem? hk)
    obtain ⟨t, x1, y1, rfl, ht, hx1, hy1⟩ := pair_at hkat hm2
    have hzl := ats_len h3
    rw [List.length_map, List.length_take] at hzl
    refine ⟨t, _, rfl, SqT.of (h1 _ _ ht), rfl, _, _, rfl, _, _, rfl, rfl, rfl, ?_⟩
    refine tYes_if ?_
    refine ⟨_, rfl, zs, h2, ?_, same_upd hD h1 _, zs ++ [y1], upd_same, ?_⟩
    · have := big; omega
    · rw [List.take_add_one, hk, List.map_append]
      exact ats_app h3 (ats_one hy1)
  rintro G ⟨h1, zs, h2, h3⟩
  rw [hxl, List.take_length] at h3
  have hzl := ats_len h3
  rw [List.length_map] at hzl
  refine ⟨D, zs, rfl, .inr (SqL.of h2), _, rfl, a, _, 2, _, rfl, rfl, SqT.of (h1 _ _ ha), hy, ?_, fun t ht => ?_⟩
  · have := big
    rw [List.length_append]
    show zs.length + 1 ≤ _
    omega
  have s3 := sameT h1 (same_new ht (.tup (zs ++ [y])))
  refine q t _ _ s3 upd_same ?_
  unfold gLet
  rw [el]
  exact ats_app (h3.keep (fr_same s3)) (ats_one (hya.keep (fr_same s3)))
theorem last_at {B : Addr → Prop} {H : Hp} {m : List Dd} {ys : List V} (h : Dd.Ats B H m ys) (hm : 0 < m.length) : ∃ y, atI ys (-1) = some y ∧ (lastD (.tup m)).At B H y := by
  have hl := ats_len h
  obtain ⟨y, hy, hya⟩ := ats_getI h (List.getElem?_eq_getElem (show m.length - 1 < m.length by omega))
  refine ⟨y, ?_, ?_⟩
  · have e : ixN ys.length (-1) = some (ys.length - 1) := by
      unfold ixN
      rw [if_neg (by decide), if_pos (by omega)]
      exact congrArg some (by omega)
    show (ixN ys.length (-1)).bind (fun j => ys[j]?) = _
    rw [e]
    show ys[ys.length - 1]? = _
    rw [hl]
    exact hy
  · show (m.getLastD .non).At B H y
    rw [List.getLastD_eq_getLast?, List.getLast?_eq_getElem?, List.getElem?_eq_getElem (show m.length - 1 < m.length by omega)]
    exact hya
abbrev sPDflt : Stmt := topS 6
theorem scPDflt : FnScope ["term"] ["term"] (defScope sPDflt) := ⟨rfl, rfl, rfl, by decide +kernel, rfl, by decide +kernel, by decide +kernel⟩
theorem c_PDflt {f : Addr} {fd : FuncData} (F : Fun K "_default_parts" "_default_parts" sPDflt f fd) (b : Binds K fd ["term"] []) (hm : mg "_default_parts" = some (.ref f)) : C8.Cal P w K mg base 1 "_default_parts" (spPart (fun r => r.length = 3 ∧ isDflt (arg 2 r) = true) fun r => dfltP (arg 2 r)) [] := by
  refine cal_of F hm b scPDflt (fun vs H Q E h => ?_) (fun cdv A outer s H vs Q E hr h => ?_)
  · obtain ⟨B, v, w', r, rfl, _⟩ := h
    rfl
  obtain ⟨B, v, w', r, rfl, hat, hsz, ⟨hc, hd⟩, q⟩ := h
  refine ⟨_, (pss_one (ps_ret (pe_ifExp (pt_cmpR op_isN (pe_ix ix_tup (pv 0) pe_int (fun _ _ => rfl)) pe_non (nomark _)) (pe_tup pa_nil) (pe_tup (pa_cons (pe_ix ix_tup (pe_ix ix_tup (pv 0) pe_int (fun _ _ => rfl)) pe_int (fun _ _ => rfl)) pa_nil))))), ?_⟩
  obtain ⟨a, ys, rfl, ha, hs, hyl, hw⟩ := head_at hat
  obtain ⟨x, hx, hxa⟩ := arg_at (v0 := .str w') hs (i := 2) (by omega)
  refine ⟨_, rfl, a, _, 3, _, rfl, rfl, SqT.of ha, hx, rfl, _, rfl, ?_⟩
  by_cases hk : arg 2 r = .non
  · rw [hk] at hxa
    cases (show x = .non from hxa)
    rw [decide_eq_true rfl]
    refine iteT ?_
    refine ⟨by show 0 ≤ sizeLine; decide, fun t ht => q t [] _ (same_new ht _) upd_same ?_⟩
    show Dd.Ats B _ (dfltP (arg 2 r)) []
    rw [hk]
    exact rfl
  · rw [decide_eq_false (ne_non hxa hk)]
    refine iteF ?_
    have hd2 := hd
    rw [dflt_eq hk, Bool.and_eq_true] at hd2
    have e2 : dfltP (arg 2 r) = [nth 1 (arg 2 r)] := by
      cases h : arg 2 r with
      | non => exact absurd h hk
      | tup l => rfl
      | int i => rfl
      | bl b => rfl
      | str s => rfl
      | lst l => rfl
    cases h : arg 2 r with
    | tup l =>
      rw [h] at hxa hd2 e2
      have hl2 : l.length = 2 := of_decide_eq_true hd2.1
      obtain ⟨b2, xs2, rfl, hb, hbs⟩ := hxa
      obtain ⟨y, hy, hya⟩ := nth_at hbs (i := 1) (by omega)
      refine ⟨_, rfl, a, _, 3, _, rfl, rfl, SqT.of ha, hx, b2, _, 1, _, rfl, rfl, SqT.of hb, hy, by show 1 ≤ sizeLine; decide, fun t ht => ?_⟩
      refine q t [y] _ (same_new ht _) upd_same ?_
      show Dd.Ats B _ (dfltP (arg 2 r)) [y]
      rw [h, e2]
      exact ats_one (hya.keep (fr_same (same_new ht _)))
    | non => exact absurd h hk
    | int i => rw [h] at hd2; cases hd2.1
    | bl b => rw [h] at hd2; cases hd2.1
    | str s => rw [h] at hd2; cases hd2.1
    | lst l => rw [h] at hd2; cases hd2.1
/-- rows that are not empty, in a tuple -/
def RowsD (k : Dd) : Prop := ∃ l, k = .tup l ∧ ∀ q ∈ l, ∃ m, q = .tup m ∧ 0 < m.length
abbrev sPChoice : Stmt := topS 13
theorem scPChoice : FnScope ["term", "alternative"] ["term"] (defScope sPChoice) := ⟨rfl, rfl, rfl, by decide +kernel, rfl, by decide +kernel, by decide +kernel⟩
theorem c_PChoice {f : Addr} {fd : FuncData} (c_default_parts : C8.Cal P w K mg base 1 "_default_parts" (spPart (fun r => r.length = 3 ∧ isDflt (arg 2 r) = true) fun r => dfltP (arg 2 r)) []) (F : Fun K "_choice_parts" "_choice_parts" sPChoice f fd) (b : Binds K fd ["term"] []) (hm : mg "_choice_parts" = some (.ref f)) : C8.Cal P w K mg base 2 "_choice_parts" (spPart (fun r => r.length = 3 ∧ RowsD (arg 1 r) ∧ isDflt (arg 2 r) = true) gChoice) [] := by
  refine cal_of F hm b scPChoice (fun vs H Q E h => ?_) (fun cdv A outer s H vs Q E hr h => ?_)
  · obtain ⟨B, v, w', r, rfl, _⟩ := h
    rfl
  obtain ⟨B, v, w', r, rfl, hat, hsz, ⟨hc, ⟨l, el, hrows⟩, hd⟩, q⟩ := h
  refine ⟨_, (pss_one (ps_ret (pe_tup (pa_cons (pe_ix ix_tup (pv 0) pe_int (fun _ _ => rfl)) (StX.pa_star (pe_lc (own := [("alternative", 1)]) (g := gName 1) (tt := tYes) (te := (tOp (rIxT K) (tVar 1) (tUn (rU fun i => V.int (-i)) (tC (.int 1))))) rfl scPChoice.nd (pi_tup (pe_ix ix_tup (pv 0) pe_int (fun _ _ => rfl))) (blkOk_by (own := [("alternative", 1)]) (N := ["term", "alternative"]) (sc := defScope sPChoice) (by decide +kernel)) (fun _ _ _ _ _ => (pg_name (i := 1) scPChoice.nd rfl (Or.inl rfl))) (fun _ _ _ _ _ => pts_nil) (fun _ _ _ _ _ => (pe_ix ix_tup (pv 1) (pe_un un_neg pe_int) (fun _ _ => rfl)))) (StX.pa_star (C8.pe_c c_default_parts hr (by decide) rfl (pa_cons (pv 0) pa_nil)) pa_nil)))))), ?_⟩
  obtain ⟨a, ys, rfl, ha, hs, hyl, hw⟩ := head_at hat
  obtain ⟨x0, hx0, hxa0⟩ := arg_at (v0 := .str w') hs (i := 0) (by omega)
  obtain ⟨x, hx, hxa⟩ := arg_at (v0 := .str w') hs (i := 1) (by omega)
  have hz := arg_sz (w := w') (r := r) 1
  rw [el] at hxa hz
  obtain ⟨b2, xs2, rfl, hb, hbs⟩ := hxa
  have hxl := ats_len hbs
  have hlz := szs_len l
  have hz : 1 + Dd.szs l ≤ _ := hz
  refine ⟨_, rfl, a, _, 1, _, rfl, rfl, SqT.of ha, hx0, ?_⟩
  refine ⟨_, rfl, a, _, 2, _, rfl, rfl, SqT.of ha, hx, b2, rfl, ⟨_, SqT.of hb⟩, fun D hD => ?_⟩
  refine lc_tup (K := K) (a := b2) (xs := xs2) (fun i G => Same H G ∧ ∃ zs, G D = some (.lst zs) ∧ Dd.Ats B H ((l.take i).map lastD) zs) ⟨same_new hD _, [], upd_same, rfl⟩ (fun i G hi ⟨h1, _⟩ => SqT.of (h1 _ _ hb)) ?_ ?_
  · rintro i x G hx ⟨h1, zs, h2, h3⟩
    obtain ⟨k, hk, hkat⟩ := ats_get hbs hx
    have hil : i < l.length := (List.getElem?_eq_some_iff.mp hk).1
    obtain ⟨m, rfl, hm2⟩ := hrows k (List.mem_of_getElem? hk)
    obtain ⟨t, xs3, rfl, ht, hts⟩ := hkat
    obtain ⟨y1, hy1, hya1⟩ := last_at hts hm2
    have hzl := ats_len h3
    rw [List.length_map, List.length_take] at hzl
    refine ⟨rfl, ?_⟩
    refine tYes_if ?_
    refine ⟨_, rfl, _, rfl, t, _, -1, _, rfl, rfl, SqT.of (h1 _ _ ht), hy1, zs, h2, ?_, same_upd hD h1 _, zs ++ [y1], upd_same, ?_⟩
    · have := big; omega
    · rw [List.take_add_one, hk, List.map_append]
      exact ats_app h3 (ats_one hya1)
  rintro G ⟨h1, zs, h2, h3⟩
  rw [hxl, List.take_length] at h3
  have hzl := ats_len h3
  rw [List.length_map] at hzl
  refine ⟨D, zs, rfl, .inr (SqL.of h2), ?_⟩
  refine ⟨_, rfl, B, .ref a, w', r, rfl, hat.keep (fr_same h1), hsz, ⟨hc, hd⟩, fun b3 xs3 G2 s2 hb3 hats3 => ?_⟩
  have hd3 : xs3.length ≤ 1 := by
    rw [ats_len hats3]
    show (dfltP (arg 2 r)).length ≤ 1
    unfold dfltP
    split <;> simp
  refine ⟨b3, xs3, rfl, .inl (SqT.of hb3), ?_, fun t ht => ?_⟩
  · have := big
    simp only [List.append_nil, List.length_cons, List.length_append]
    omega
  have s12 := sameT h1 s2
  have s3 := same_new ht (.tup (x0 :: (zs ++ (xs3 ++ []))))
  refine q t _ _ (sameT s12 s3) upd_same ?_
  generalize upd G2 t (.tup (x0 :: (zs ++ (xs3 ++ [])))) = G3 at s3 ⊢
  unfold gChoice
  rw [el, List.append_nil]
  exact ⟨x0, _, rfl, hxa0.keep (fr_same (sameT s12 s3)), ats_app (h3.keep (fr_same (sameT s12 s3))) (hats3.keep (fr_same s3))⟩
end
end Toy

set_option Elab.async false
set_option linter.all false
set_option maxRecDepth 100000
set_option maxHeartbeats 4000000
/-! Part G: the parts of any term; whether something is a term. -/
namespace Toy
open PySem L2
open PyProof.Rows (envOfC)
def pwords : List Str := ["app", "lam", "let", "seq", "con", "case", "pick", "prim", "note"]
theorem parts_out {z : Str} (h : z ∉ pwords) (r : List Dd) : partsW z r = [] := by
  simp only [pwords, List.mem_cons, List.not_mem_nil, or_false, not_or] at h
  obtain ⟨h3, h4, h5, h6, h7, h8, h9, h10, h11⟩ := h
  unfold partsW
  rw [if_neg h3, if_neg h4, if_neg h5, if_neg h6, if_neg h7, if_neg h8, if_neg h9, if_neg h10, if_neg h11]
structure TxtN (P : Program) (w : World) (K : PySem.W.Frag) (mg : Str → Option Value) (base : Heap) (aP : Addr) (es : Array DictEntry) (n : Nat) (sP : Addr → Option Sp) : Prop where
  kP : KDict K w aP es n
  gPARTS : ∃ u, mg "PARTS" = some u ∧ RelV (.ref aP) u
  partIn : ∀ z ∈ pwords, ∃ f C g, PySem.W.nsIn K aP z = some (some (.ref f)) ∧ sP f = some (spPart C g) ∧ (∀ r, formW z r = true → C r) ∧ ∀ r, partsW z r = g r
  partOut : ∀ z, z ∉ pwords → PySem.W.nsIn K aP z = some none
  heldP : ∀ f sp, sP f = some sp → Held P w K mg base 2 f sp
section
variable {P : Program} {w : World} {K : PySem.W.Frag} {mg : Str → Option Value} {base : Heap} {aP : Addr} {es : Array DictEntry} {n : Nat} {sP : Addr → Option Sp}
theorem form_tup {k : Dd} (h : formB k = true) : ∃ z r, k = .tup (.str z :: r) ∧ formW z r = true := by
  cases k with
  | tup l =>
    cases l with
    | nil => cases h
    | cons x r =>
      cases x with
      | str z => exact ⟨z, r, rfl, h⟩
      | int i => cases h
      | bl b => cases h
      | non => cases h
      | tup l => cases h
      | lst l => cases h
  | int i => cases h
  | bl b => cases h
  | non => cases h
  | str s => cases h
  | lst l => cases h
abbrev sParts : Stmt := topS 1
theorem scParts : FnScope ["term", "find"] ["term"] (defScope sParts) := ⟨rfl, rfl, rfl, by decide +kernel, rfl, by decide +kernel, by decide +kernel⟩
def spParts : Sp := fun vs H Q _ => ∃ (B : Addr → Prop) (v : V) (k : Dd), vs = [v] ∧ k.At B H v ∧ formB k = true ∧ k.sz ≤ 1000000 ∧ ∀ (b : Addr) (xs : List V) (H' : Hp), Same H H' → H' b = some (.tup xs) → Dd.Ats B H' (partsD k) xs → Q (.ref b) H'
theorem c_parts {f : Addr} {fd : FuncData} (T : TxtN P w K mg base aP es n sP) (F : Fun K "parts_of" "parts_of" sParts f fd) (b : Binds K fd ["term"] []) (hm : mg "parts_of" = some (.ref f)) : C8.Cal P w K mg base 3 "parts_of" spParts [] := by
  refine cal_of F hm b scParts (fun vs H Q E h => ?_) (fun cdv A outer s H vs Q E hr h => ?_)
  · obtain ⟨B, v, k, rfl, _⟩ := h
    rfl
  obtain ⟨B, v, k, rfl, hat, hform, hsz, q⟩ := h
  refine ⟨_, (pss_cons (ps_set (i := 1) scParts.nd rfl (Or.inl rfl) (pe_kget T.kP (C8.pe_gc rfl T.gPARTS) (pe_ix ix_tup (pv 0) pe_int (fun _ _ => rfl)) ⟨rfl, rfl, rfl, rfl⟩))
    (pss_one (ps_ret (pe_ifExp (pt_cmpR op_isN (pv 1) pe_non (nomark _)) (pe_tup pa_nil) (pe_callA (i := 1) T.heldP (hr.mono (by decide)) rfl (Or.inl rfl) (pa_cons (pv 0) pa_nil)))))), ?_⟩
  obtain ⟨z, r, rfl, hf⟩ := form_tup hform
  obtain ⟨a, ys, rfl, ha, hs, hyl, hw⟩ := head_at hat
  by_cases hp : z ∈ pwords
  · obtain ⟨fz, C, g, e1, e2, e3, e4⟩ := T.partIn z hp
    refine ⟨rfl, _, rfl, a, _, 0, _, rfl, rfl, SqT.of ha, at0 _ _, z, _, .ref fz, rfl, e1, rfl, ?_⟩
    refine ⟨_, rfl, rfl, _, rfl, ?_⟩
    rw [decide_eq_false (show ¬ V.ref fz = V.non by intro e; cases e)]
    refine iteF ?_
    refine ⟨fz, _, rfl, e2, _, rfl, B, .ref a, z, r, rfl, hat, hsz, e3 r hf, fun b2 xs H' s' hb hats => q b2 xs H' s' hb ?_⟩
    show Dd.Ats B H' (partsW z r) xs
    rw [e4 r]
    exact hats
  · refine ⟨rfl, _, rfl, a, _, 0, _, rfl, rfl, SqT.of ha, at0 _ _, z, _, .non, rfl, T.partOut z hp, rfl, ?_⟩
    refine ⟨_, rfl, rfl, _, rfl, ?_⟩
    rw [decide_eq_true rfl]
    refine iteT ?_
    refine ⟨by show 0 ≤ sizeLine; decide, fun t ht => q t [] _ (same_new ht _) upd_same ?_⟩
    show Dd.Ats B _ (partsW z r) []
    rw [parts_out hp]
    exact rfl
/-! ### is_term -/
theorem szs_tl (k : Dd) : Dd.szs (tl k) ≤ k.sz - 1 := by
  cases k with
  | tup l => show Dd.szs l ≤ 1 + Dd.szs l - 1; omega
  | int i => exact Nat.zero_le _
  | bl b => exact Nat.zero_le _
  | non => exact Nat.zero_le _
  | str s => exact Nat.zero_le _
  | lst l => exact Nat.zero_le _
theorem fw_num (r : List Dd) : formW "num" r = fNum r := by
  unfold formW
  rw [if_pos rfl]
theorem fw_var (r : List Dd) : formW "var" r = fVar r := by
  unfold formW
  rw [if_neg (show ¬ ("var" : Str) = "num" by decide +kernel), if_pos rfl]
theorem fw_app (r : List Dd) : formW "app" r = fApp r := by
  unfold formW
  rw [if_neg (show ¬ ("app" : Str) = "num" by decide +kernel), if_neg (show ¬ ("app" : Str) = "var" by decide +kernel), if_pos rfl]
theorem fw_lam (r : List Dd) : formW "lam" r = fLam r := by
  unfold formW
  rw [if_neg (show ¬ ("lam" : Str) = "num" by decide +kernel), if_neg (show ¬ ("lam" : Str) = "var" by decide +kernel), if_neg (show ¬ ("lam" : Str) = "app" by decide +kernel), if_pos rfl]
theorem fw_let (r : List Dd) : formW "let" r = fLet r := by
  unfold formW
  rw [if_neg (show ¬ ("let" : Str) = "num" by decide +kernel), if_neg (show ¬ ("let" : Str) = "var" by decide +kernel), if_neg (show ¬ ("let" : Str) = "app" by decide +kernel), if_neg (show ¬ ("let" : Str) = "lam" by decide +kernel), if_pos rfl]
theorem fw_seq (r : List Dd) : formW "seq" r = fSeq r := by
  unfold formW
  rw [if_neg (show ¬ ("seq" : Str) = "num" by decide +kernel), if_neg (show ¬ ("seq" : Str) = "var" by decide +kernel), if_neg (show ¬ ("seq" : Str) = "app" by decide +kernel), if_neg (show ¬ ("seq" : Str) = "lam" by decide +kernel), if_neg (show ¬ ("seq" : Str) = "let" by decide +kernel), if_pos rfl]
theorem fw_con (r : List Dd) : formW "con" r = fCon r := by
  unfold formW
  rw [if_neg (show ¬ ("con" : Str) = "num" by decide +kernel), if_neg (show ¬ ("con" : Str) = "var" by decide +kernel), if_neg (show ¬ ("con" : Str) = "app" by decide +kernel), if_neg (show ¬ ("con" : Str) = "lam" by decide +kernel), if_neg (show ¬ ("con" : Str) = "let" by decide +kernel), if_neg (show ¬ ("con" : Str) = "seq" by decide +kernel), if_pos rfl]
theorem fw_case (r : List Dd) : formW "case" r = fCase r := by
  unfold formW
  rw [if_neg (show ¬ ("case" : Str) = "num" by decide +kernel), if_neg (show ¬ ("case" : Str) = "var" by decide +kernel), if_neg (show ¬ ("case" : Str) = "app" by decide +kernel), if_neg (show ¬ ("case" : Str) = "lam" by decide +kernel), if_neg (show ¬ ("case" : Str) = "let" by decide +kernel), if_neg (show ¬ ("case" : Str) = "seq" by decide +kernel), if_neg (show ¬ ("case" : Str) = "con" by decide +kernel), if_pos rfl]
theorem fw_pick (r : List Dd) : formW "pick" r = fPick r := by
  unfold formW
  rw [if_neg (show ¬ ("pick" : Str) = "num" by decide +kernel), if_neg (show ¬ ("pick" : Str) = "var" by decide +kernel), if_neg (show ¬ ("pick" : Str) = "app" by decide +kernel), if_neg (show ¬ ("pick" : Str) = "lam" by decide +kernel), if_neg (show ¬ ("pick" : Str) = "let" by decide +kernel), if_neg (show ¬ ("pick" : Str) = "seq" by decide +kernel), if_neg (show ¬ ("pick" : Str) = "con" by decide +kernel), if_neg (show ¬ ("pick" : Str) = "case" by decide +kernel), if_pos rfl]
theorem fw_prim (r : List Dd) : formW "prim" r = fPrim r := by
  unfold formW
  rw [if_neg (show ¬ ("prim" : Str) = "num" by decide +kernel), if_neg (show ¬ ("prim" : Str) = "var" by decide +kernel), if_neg (show ¬ ("prim" : Str) = "app" by decide +kernel), if_neg (show ¬ ("prim" : Str) = "lam" by decide +kernel), if_neg (show ¬ ("prim" : Str) = "let" by decide +kernel), if_neg (show ¬ ("prim" : Str) = "seq" by decide +kernel), if_neg (show ¬ ("prim" : Str) = "con" by decide +kernel), if_neg (show ¬ ("prim" : Str) = "case" by decide +kernel), if_neg (show ¬ ("prim" : Str) = "pick" by decide +kernel), if_pos rfl]
theorem fw_note (r : List Dd) : formW "note" r = fNote r := by
  unfold formW
  rw [if_neg (show ¬ ("note" : Str) = "num" by decide +kernel), if_neg (show ¬ ("note" : Str) = "var" by decide +kernel), if_neg (show ¬ ("note" : Str) = "app" by decide +kernel), if_neg (show ¬ ("note" : Str) = "lam" by decide +kernel), if_neg (show ¬ ("note" : Str) = "let" by decide +kernel), if_neg (show ¬ ("note" : Str) = "seq" by decide +kernel), if_neg (show ¬ ("note" : Str) = "con" by decide +kernel), if_neg (show ¬ ("note" : Str) = "case" by decide +kernel), if_neg (show ¬ ("note" : Str) = "pick" by decide +kernel), if_neg (show ¬ ("note" : Str) = "prim" by decide +kernel), if_pos rfl]
theorem pw_app (r : List Dd) : partsW "app" r = r := by
  unfold partsW
  rw [if_pos rfl]
theorem pw_lam (r : List Dd) : partsW "lam" r = [arg 1 r] := by
  unfold partsW
  rw [if_neg (show ¬ ("lam" : Str) = "app" by decide +kernel), if_pos rfl]
theorem pw_let (r : List Dd) : partsW "let" r = gLet r := by
  unfold partsW
  rw [if_neg (show ¬ ("let" : Str) = "app" by decide +kernel), if_neg (show ¬ ("let" : Str) = "lam" by decide +kernel), if_pos rfl]
theorem pw_seq (r : List Dd) : partsW "seq" r = r.drop 1 := by
  unfold partsW
  rw [if_neg (show ¬ ("seq" : Str) = "app" by decide +kernel), if_neg (show ¬ ("seq" : Str) = "lam" by decide +kernel), if_neg (show ¬ ("seq" : Str) = "let" by decide +kernel), if_pos rfl]
theorem pw_con (r : List Dd) : partsW "con" r = tl (arg 1 r) := by
  unfold partsW
  rw [if_neg (show ¬ ("con" : Str) = "app" by decide +kernel), if_neg (show ¬ ("con" : Str) = "lam" by decide +kernel), if_neg (show ¬ ("con" : Str) = "let" by decide +kernel), if_neg (show ¬ ("con" : Str) = "seq" by decide +kernel), if_pos rfl]
theorem pw_case (r : List Dd) : partsW "case" r = gChoice r := by
  unfold partsW
  rw [if_neg (show ¬ ("case" : Str) = "app" by decide +kernel), if_neg (show ¬ ("case" : Str) = "lam" by decide +kernel), if_neg (show ¬ ("case" : Str) = "let" by decide +kernel), if_neg (show ¬ ("case" : Str) = "seq" by decide +kernel), if_neg (show ¬ ("case" : Str) = "con" by decide +kernel), if_pos rfl]
theorem pw_pick (r : List Dd) : partsW "pick" r = gChoice r := by
  unfold partsW
  rw [if_neg (show ¬ ("pick" : Str) = "app" by decide +kernel), if_neg (show ¬ ("pick" : Str) = "lam" by decide +kernel), if_neg (show ¬ ("pick" : Str) = "let" by decide +kernel), if_neg (show ¬ ("pick" : Str) = "seq" by decide +kernel), if_neg (show ¬ ("pick" : Str) = "con" by decide +kernel), if_neg (show ¬ ("pick" : Str) = "case" by decide +kernel), if_pos rfl]
theorem pw_prim (r : List Dd) : partsW "prim" r = r.drop 1 := by
  unfold partsW
  rw [if_neg (show ¬ ("prim" : Str) = "app" by decide +kernel), if_neg (show ¬ ("prim" : Str) = "lam" by decide +kernel), if_neg (show ¬ ("prim" : Str) = "let" by decide +kernel), if_neg (show ¬ ("prim" : Str) = "seq" by decide +kernel), if_neg (show ¬ ("prim" : Str) = "con" by decide +kernel), if_neg (show ¬ ("prim" : Str) = "case" by decide +kernel), if_neg (show ¬ ("prim" : Str) = "pick" by decide +kernel), if_pos rfl]
theorem pw_note (r : List Dd) : partsW "note" r = [arg 1 r] := by
  unfold partsW
  rw [if_neg (show ¬ ("note" : Str) = "app" by decide +kernel), if_neg (show ¬ ("note" : Str) = "lam" by decide +kernel), if_neg (show ¬ ("note" : Str) = "let" by decide +kernel), if_neg (show ¬ ("note" : Str) = "seq" by decide +kernel), if_neg (show ¬ ("note" : Str) = "con" by decide +kernel), if_neg (show ¬ ("note" : Str) = "case" by decide +kernel), if_neg (show ¬ ("note" : Str) = "pick" by decide +kernel), if_neg (show ¬ ("note" : Str) = "prim" by decide +kernel), if_pos rfl]
theorem szs_two {r : List Dd} (h : r.length = 2) : Dd.szs r = (arg 0 r).sz + (arg 1 r).sz := by
  match r, h with
  | [a, b], _ => show a.sz + (b.sz + 0) = a.sz + b.sz; omega
theorem szs_three {r : List Dd} (h : r.length = 3) : Dd.szs r = (arg 0 r).sz + (arg 1 r).sz + (arg 2 r).sz := by
  match r, h with
  | [a, b, c], _ => show a.sz + (b.sz + (c.sz + 0)) = a.sz + b.sz + c.sz; omega
theorem last_sz (k : Dd) : (lastD k).sz ≤ k.sz := by
  cases k with
  | tup l =>
    show (l.getLastD .non).sz ≤ 1 + Dd.szs l
    rw [List.getLastD_eq_getLast?]
    cases h : l.getLast? with
    | none => show 1 ≤ _; omega
    | some q =>
      have := szs_mem (List.mem_of_getLast? h)
      show q.sz ≤ _
      omega
  | int i => exact sz_pos _
  | bl b => exact sz_pos _
  | non => exact sz_pos _
  | str s => exact sz_pos _
  | lst l => exact sz_pos _
theorem lasts_sz : ∀ l : List Dd, Dd.szs (l.map lastD) ≤ Dd.szs l
  | [] => Nat.le_refl _
  | k :: l => by
    have h1 := last_sz k
    have h2 := lasts_sz l
    show (lastD k).sz + Dd.szs (l.map lastD) ≤ k.sz + Dd.szs l
    omega
theorem drop_sz : ∀ r : List Dd, Dd.szs (r.drop 1) ≤ Dd.szs r
  | [] => Nat.le_refl _
  | k :: r => by show Dd.szs r ≤ k.sz + Dd.szs r; omega
theorem dflt_sz (d : Dd) : Dd.szs (dfltP d) ≤ d.sz := by
  have h := nth_sz 1 d
  unfold dfltP
  split
  · exact Nat.zero_le _
  · show (nth 1 d).sz + 0 ≤ d.sz
    omega
theorem fand {a b : Bool} (h : (a && b) = true) : a = true ∧ b = true := by rwa [Bool.and_eq_true] at h
theorem parts_sz {k : Dd} (h : formB k = true) : Dd.szs (partsD k) < k.sz := by
  obtain ⟨z, r, rfl, hf⟩ := form_tup h
  show Dd.szs (partsW z r) < 1 + (1 + Dd.szs r)
  by_cases hp : z ∈ pwords
  · simp only [pwords, List.mem_cons, List.not_mem_nil, or_false] at hp
    rcases hp with e | e | e | e | e | e | e | e | e <;> subst e
    · rw [pw_app]; omega
    · rw [pw_lam]; rw [fw_lam] at hf
      have := szs_two (of_decide_eq_true (fand hf).1)
      show (arg 1 r).sz + 0 < _
      omega
    · rw [pw_let]; rw [fw_let] at hf
      have := szs_two (of_decide_eq_true (fand (fand hf).1).1)
      have h1 := nths_sz 1 (tl (arg 0 r))
      have h2 := szs_tl (arg 0 r)
      unfold gLet
      rw [szs_app]
      show _ + ((arg 1 r).sz + 0) < _
      omega
    · rw [pw_seq]; have := drop_sz r; omega
    · rw [pw_con]; rw [fw_con] at hf
      have := szs_two (of_decide_eq_true (fand hf).1)
      have h2 := szs_tl (arg 1 r)
      omega
    · rw [pw_case]; rw [fw_case] at hf
      have := szs_three (of_decide_eq_true (fand (fand (fand hf).1).1).1)
      have h1 := lasts_sz (tl (arg 1 r))
      have h2 := szs_tl (arg 1 r)
      have h3 := dflt_sz (arg 2 r)
      show (arg 0 r).sz + Dd.szs (_ ++ _) < _
      rw [szs_app]
      omega
    · rw [pw_pick]; rw [fw_pick] at hf
      have := szs_three (of_decide_eq_true (fand (fand (fand hf).1).1).1)
      have h1 := lasts_sz (tl (arg 1 r))
      have h2 := szs_tl (arg 1 r)
      have h3 := dflt_sz (arg 2 r)
      show (arg 0 r).sz + Dd.szs (_ ++ _) < _
      rw [szs_app]
      omega
    · rw [pw_prim]; have := drop_sz r; omega
    · rw [pw_note]; rw [fw_note] at hf
      have := szs_two (of_decide_eq_true (fand hf).1)
      show (arg 1 r).sz + 0 < _
      omega
  · rw [parts_out hp]
    show 0 < _
    omega
theorem isT_stab : ∀ (n m : Nat) (k : Dd), k.sz ≤ n → k.sz ≤ m → isT n k = isT m k
  | 0, _, k, h, _ => by have := sz_pos k; omega
  | _ + 1, 0, k, _, h => by have := sz_pos k; omega
  | n + 1, m + 1, k, h1, h2 => by
    show (formB k && (partsD k).all (isT n)) = (formB k && (partsD k).all (isT m))
    cases hf : formB k with
    | false => rfl
    | true =>
      rw [Bool.true_and, Bool.true_and]
      have hp := parts_sz hf
      have e : ∀ p ∈ partsD k, isT n p = isT m p := fun p hp' => by
        have := szs_mem hp'
        exact isT_stab n m p (by omega) (by omega)
      rw [Bool.eq_iff_iff, List.all_eq_true, List.all_eq_true]
      exact ⟨fun h p hp => by rw [← e p hp]; exact h p hp, fun h p hp => by rw [e p hp]; exact h p hp⟩
/-- whether something is a term -/
def isTT (k : Dd) : Bool := isT k.sz k
theorem isTT_eq (k : Dd) : isTT k = (formB k && (partsD k).all isTT) := by
  have h1 : isTT k = isT (k.sz + 1) k := isT_stab _ _ k (Nat.le_refl _) (Nat.le_succ _)
  rw [h1]
  show (formB k && (partsD k).all (isT k.sz)) = _
  cases hf : formB k with
  | false => rfl
  | true =>
    rw [Bool.true_and, Bool.true_and]
    have hp := parts_sz hf
    have e : ∀ p ∈ partsD k, isT k.sz p = isTT p := fun p hp' => by
      have := szs_mem hp'
      exact isT_stab _ _ p (by omega) (Nat.le_refl _)
    rw [Bool.eq_iff_iff, List.all_eq_true, List.all_eq_true]
    exact ⟨fun h p hp => by rw [← e p hp]; exact h p hp, fun h p hp => by rw [e p hp]; exact h p hp⟩
end
end Toy

set_option Elab.async false
set_option linter.all false
set_option maxRecDepth 100000
set_option maxHeartbeats 4000000
/-! Part H: good terms in plain Lean; names drawn. -/
namespace Toy
open PySem L2
open PyProof.Rows (envOfC)
/-- a row that begins with the word of a form -/
def kindTup : Dd → Bool
  | .tup (.str z :: _) => decide (z ∈ words)
  | _ => false
def niceW (w : Str) (r : List Dd) : Bool := if w = "case" then !kindTup (arg 2 r) else if w = "pick" then !kindTup (arg 2 r) else true
def niceB : Dd → Bool
  | .tup (.str w :: r) => niceW w r
  | _ => true
/-- a term, not deeper than this, whose names are no words of forms -/
def isN : Nat → Dd → Bool
  | 0, _ => false
  | n + 1, k => formB k && niceB k && (partsD k).all (isN n)
theorem isN_mono : ∀ (n m : Nat) (k : Dd), n ≤ m → isN n k = true → isN m k = true
  | 0, _, _, _, h => by cases h
  | n + 1, 0, _, h, _ => by omega
  | n + 1, m + 1, k, hl, h => by
    obtain ⟨h1, h2⟩ := fand h
    show (formB k && niceB k && (partsD k).all (isN m)) = true
    rw [h1, Bool.true_and, List.all_eq_true]
    exact fun p hp => isN_mono n m p (by omega) (List.all_eq_true.mp h2 p hp)
theorem isN_T : ∀ (n : Nat) (k : Dd), isN n k = true → isTT k = true
  | 0, _, h => by cases h
  | n + 1, k, h => by
    obtain ⟨h1, h2⟩ := fand h
    rw [isTT_eq, (fand h1).1, Bool.true_and, List.all_eq_true]
    exact fun p hp => isN_T n p (List.all_eq_true.mp h2 p hp)
def names : List Str := ["a", "b", "cc", "f", "main", "d'", "e_1", "g"]
theorem names_ok : ∀ z ∈ names, isName (.str z) = true ∧ z ∉ words ∧ z.length ≤ 1000 := by decide +kernel
theorem signs_ok : ∀ z ∈ signs, z.length ≤ 1000 := by decide +kernel
theorem words_ok : ∀ z ∈ words, z.length ≤ 1000 := by decide +kernel
theorem ddK_nodup : ∀ (acc ks : List Key), (acc ++ ks).Nodup → ddK acc ks = acc ++ ks
  | acc, [], _ => by rw [List.append_nil]; rfl
  | acc, k :: ks, h => by
    have hk : (acc.any fun j => decide (j = k)) = false := by
      rw [Bool.eq_false_iff]
      intro z
      obtain ⟨j, hj, e⟩ := List.any_eq_true.mp z
      have e := of_decide_eq_true e
      subst e
      rw [List.nodup_append] at h
      exact h.2.2 j hj j (List.mem_cons_self ..) rfl
    show ddK (if (acc.any fun j => decide (j = k)) = true then acc else acc ++ [k]) ks = _
    rw [hk, if_neg (by decide)]
    have e : acc ++ k :: ks = (acc ++ [k]) ++ ks := by rw [List.append_assoc]; rfl
    rw [e] at h ⊢
    exact ddK_nodup _ ks h
theorem dist_nodup {ks : List Key} (h : ks.Nodup) : distK ks = true := by
  unfold distK
  rw [ddK_nodup [] ks h]
  exact decide_eq_true rfl
/-- names, all different, in a tuple -/
def nameT (zs : List Str) : Dd := .tup (zs.map Dd.str)
theorem areNames_ok {zs : List Str} (h1 : ∀ z ∈ zs, z ∈ names) (h2 : zs.Nodup) : areNames (nameT zs) = true := by
  show ((zs.map Dd.str).all isName && distK ((zs.map Dd.str).map keyD)) = true
  rw [Bool.and_eq_true]
  refine ⟨?_, dist_nodup ?_⟩
  · rw [List.all_map, List.all_eq_true]
    exact fun z hz => (names_ok z (h1 z hz)).1
  · rw [List.map_map]
    exact List.Pairwise.map _ (fun a b h e => h (Sum.inr.inj e)) h2
theorem szs_strs : ∀ zs : List Str, Dd.szs (zs.map Dd.str) = zs.length
  | [] => rfl
  | z :: zs => by
    show 1 + Dd.szs (zs.map Dd.str) = zs.length + 1
    rw [szs_strs zs]
    omega
/-- a good term of this depth -/
structure Gt (d : Nat) (k : Dd) : Prop where
  ok : isN (d + 1) k = true
  sz : k.sz + 5 ≤ 8 * 4 ^ d
theorem pow_pos4 (d : Nat) : 1 ≤ 4 ^ d := by
  have := Nat.pow_le_pow_left (show 1 ≤ 4 by decide) d
  rwa [Nat.one_pow] at this
theorem Gt.mono {d e : Nat} {k : Dd} (h : Gt d k) (l : d ≤ e) : Gt e k := ⟨isN_mono _ _ k (by omega) h.ok, Nat.le_trans h.sz (Nat.mul_le_mul_left 8 (Nat.pow_le_pow_right (by decide) l))⟩
theorem isN_mk {n : Nat} {w : Str} {r : List Dd} (h1 : formW w r = true) (h2 : niceW w r = true) (h3 : ∀ p ∈ partsW w r, isN n p = true) : isN (n + 1) (.tup (.str w :: r)) = true := by
  show (formW w r && niceW w r && (partsW w r).all (isN n)) = true
  rw [h1, h2, Bool.true_and, Bool.true_and, List.all_eq_true]
  exact h3
theorem nice_other {w : Str} {r : List Dd} (h1 : w ≠ "case") (h2 : w ≠ "pick") : niceW w r = true := by
  unfold niceW
  rw [if_neg h1, if_neg h2]
theorem nw : ("num" : Str) ≠ "case" ∧ ("num" : Str) ≠ "pick" ∧ ("var" : Str) ≠ "case" ∧ ("var" : Str) ≠ "pick" ∧ ("app" : Str) ≠ "case" ∧ ("app" : Str) ≠ "pick" ∧ ("lam" : Str) ≠ "case" ∧ ("lam" : Str) ≠ "pick" ∧ ("let" : Str) ≠ "case" ∧ ("let" : Str) ≠ "pick" ∧ ("seq" : Str) ≠ "case" ∧ ("seq" : Str) ≠ "pick" ∧ ("con" : Str) ≠ "case" ∧ ("con" : Str) ≠ "pick" ∧ ("prim" : Str) ≠ "case" ∧ ("prim" : Str) ≠ "pick" ∧ ("note" : Str) ≠ "case" ∧ ("note" : Str) ≠ "pick" := by decide +kernel
theorem pw_num (r : List Dd) : partsW "num" r = [] := parts_out (by decide +kernel) r
theorem pw_var (r : List Dd) : partsW "var" r = [] := parts_out (by decide +kernel) r
theorem gt_num {d : Nat} {i : Int} (h0 : -1000000000000000 ≤ i) (h1 : i ≤ 1000000000000000) : Gt d (.tup [.str "num", .int i]) := by
  have hp := pow_pos4 d
  refine ⟨isN_mk ?_ (nice_other nw.1 nw.2.1) (fun p hp => by rw [pw_num] at hp; cases hp), by show 1 + (1 + (1 + 0)) + 5 ≤ _; omega⟩
  rw [fw_num]
  show (decide (1 = 1) && (decide (-1000000000000000 ≤ i) && decide (i ≤ 1000000000000000))) = true
  rw [decide_eq_true h0, decide_eq_true h1]
  rfl
theorem gt_var {d : Nat} {z : Str} (h : z ∈ names) : Gt d (.tup [.str "var", .str z]) := by
  have hp := pow_pos4 d
  refine ⟨isN_mk ?_ (nice_other nw.2.2.1 nw.2.2.2.1) (fun p hp => by rw [pw_var] at hp; cases hp), by show 1 + (1 + (1 + 0)) + 5 ≤ _; omega⟩
  rw [fw_var]
  show (decide (1 = 1) && isName (.str z)) = true
  rw [(names_ok z h).1]
  rfl
theorem p4 (d : Nat) : 8 * 4 ^ (d + 1) = 4 * (8 * 4 ^ d) := by rw [Nat.pow_succ]; omega
theorem mem2 {p a b : Dd} (h : p ∈ [a, b]) : p = a ∨ p = b := by simpa using h
theorem gt_app {d : Nat} {a b : Dd} (ha : Gt d a) (hb : Gt d b) : Gt (d + 1) (.tup [.str "app", a, b]) := by
  have h1 := ha.sz
  have h2 := hb.sz
  refine ⟨isN_mk (by rw [fw_app]; rfl) (nice_other nw.2.2.2.2.1 nw.2.2.2.2.2.1) (fun p hp => ?_), by rw [p4]; show 1 + (1 + (a.sz + (b.sz + 0))) + 5 ≤ _; omega⟩
  rw [pw_app] at hp
  rcases mem2 hp with e | e <;> rw [e]
  · exact ha.ok
  · exact hb.ok
theorem gt_lam {d : Nat} {z : Str} {b : Dd} (hz : z ∈ names) (hb : Gt d b) : Gt (d + 1) (.tup [.str "lam", .str z, b]) := by
  have h2 := hb.sz
  refine ⟨isN_mk ?_ (nice_other nw.2.2.2.2.2.2.1 nw.2.2.2.2.2.2.2.1) (fun p hp => ?_), by rw [p4]; show 1 + (1 + (1 + (b.sz + 0))) + 5 ≤ _; omega⟩
  · rw [fw_lam]
    show (decide (2 = 2) && isName (.str z)) = true
    rw [(names_ok z hz).1]
    rfl
  · rw [pw_lam] at hp
    rw [List.mem_singleton.mp hp]
    exact hb.ok
theorem gt_seq {d : Nat} {z : Str} {a b : Dd} (hz : z ∈ names) (ha : Gt d a) (hb : Gt d b) : Gt (d + 1) (.tup [.str "seq", .str z, a, b]) := by
  have h1 := ha.sz
  have h2 := hb.sz
  refine ⟨isN_mk ?_ (nice_other nw.2.2.2.2.2.2.2.2.2.2.1 nw.2.2.2.2.2.2.2.2.2.2.2.1) (fun p hp => ?_), by rw [p4]; show 1 + (1 + (1 + (a.sz + (b.sz + 0)))) + 5 ≤ _; omega⟩
  · rw [fw_seq]
    show (decide (3 = 3) && isName (.str z)) = true
    rw [(names_ok z hz).1]
    rfl
  · rw [pw_seq] at hp
    rcases mem2 hp with e | e <;> rw [e]
    · exact ha.ok
    · exact hb.ok
theorem gt_prim {d : Nat} {z : Str} {a b : Dd} (hz : z ∈ signs) (ha : Gt d a) (hb : Gt d b) : Gt (d + 1) (.tup [.str "prim", .str z, a, b]) := by
  have h1 := ha.sz
  have h2 := hb.sz
  refine ⟨isN_mk ?_ (nice_other nw.2.2.2.2.2.2.2.2.2.2.2.2.2.2.1 nw.2.2.2.2.2.2.2.2.2.2.2.2.2.2.2.1) (fun p hp => ?_), by rw [p4]; show 1 + (1 + (1 + (a.sz + (b.sz + 0)))) + 5 ≤ _; omega⟩
  · rw [fw_prim]
    show (decide (3 = 3) && decide (z ∈ signs)) = true
    rw [decide_eq_true hz]
    rfl
  · rw [pw_prim] at hp
    rcases mem2 hp with e | e <;> rw [e]
    · exact ha.ok
    · exact hb.ok
theorem gt_note {d : Nat} {i : Int} {b : Dd} (h0 : 0 ≤ i) (h1 : i ≤ 1000000000000) (hb : Gt d b) : Gt (d + 1) (.tup [.str "note", .int i, b]) := by
  have h2 := hb.sz
  refine ⟨isN_mk ?_ (nice_other nw.2.2.2.2.2.2.2.2.2.2.2.2.2.2.2.2.1 nw.2.2.2.2.2.2.2.2.2.2.2.2.2.2.2.2.2) (fun p hp => ?_), by rw [p4]; show 1 + (1 + (1 + (b.sz + 0))) + 5 ≤ _; omega⟩
  · rw [fw_note]
    show (decide (2 = 2) && (decide (0 ≤ i) && decide (i ≤ 1000000000000))) = true
    rw [decide_eq_true h0, decide_eq_true h1]
    rfl
  · rw [pw_note] at hp
    rw [List.mem_singleton.mp hp]
    exact hb.ok
theorem szs_gt {d : Nat} : ∀ {l : List Dd}, (∀ k ∈ l, Gt d k) → Dd.szs l ≤ l.length * (8 * 4 ^ d - 5)
  | [], _ => Nat.zero_le _
  | k :: l, h => by
    have h1 := (h k (List.mem_cons_self ..)).sz
    have h2 := szs_gt fun q hq => h q (List.mem_cons_of_mem _ hq)
    show k.sz + Dd.szs l ≤ (l.length + 1) * (8 * 4 ^ d - 5)
    rw [Nat.succ_mul]
    omega
theorem gt_con {d : Nat} {i : Int} {l : List Dd} (h0 : 0 ≤ i) (h1 : i ≤ 1000) (hl : l.length ≤ 3) (h : ∀ k ∈ l, Gt d k) : Gt (d + 1) (.tup [.str "con", .int i, .tup l]) := by
  have h2 := szs_gt h
  have hp := pow_pos4 d
  have h3 : l.length * (8 * 4 ^ d - 5) ≤ 3 * (8 * 4 ^ d - 5) := Nat.mul_le_mul_right _ hl
  refine ⟨isN_mk ?_ (nice_other nw.2.2.2.2.2.2.2.2.2.2.2.2.1 nw.2.2.2.2.2.2.2.2.2.2.2.2.2.1) (fun p hp => ?_), by rw [p4]; show 1 + (1 + (1 + (1 + Dd.szs l + 0))) + 5 ≤ _; omega⟩
  · rw [fw_con]
    show (decide (2 = 2) && ((decide (0 ≤ i) && decide (i ≤ 1000)) && true)) = true
    rw [decide_eq_true h0, decide_eq_true h1]
    rfl
  · rw [pw_con] at hp
    exact (h p hp).ok
/-- pairs of names and terms -/
def rowsL (zs : List Str) (l : List Dd) : List Dd := List.zipWith (fun z k => .tup [.str z, k]) zs l
theorem rowsL_names : ∀ {zs : List Str} {l : List Dd}, zs.length = l.length → (rowsL zs l).map (nth 0) = zs.map Dd.str
  | [], [], _ => rfl
  | z :: zs, k :: l, h => by
    show Dd.str z :: (rowsL zs l).map (nth 0) = Dd.str z :: zs.map Dd.str
    rw [rowsL_names (Nat.succ.inj h)]
  | [], _ :: _, h => by cases h
  | _ :: _, [], h => by cases h
theorem rowsL_terms : ∀ {zs : List Str} {l : List Dd}, zs.length = l.length → (rowsL zs l).map (nth 1) = l
  | [], [], _ => rfl
  | z :: zs, k :: l, h => by
    show k :: (rowsL zs l).map (nth 1) = k :: l
    rw [rowsL_terms (Nat.succ.inj h)]
  | [], _ :: _, h => by cases h
  | _ :: _, [], h => by cases h
theorem rowsL_two : ∀ {zs : List Str} {l : List Dd}, (rowsL zs l).all (isRow 2) = true
  | [], _ => by cases ‹List Dd› <;> rfl
  | _ :: _, [] => rfl
  | z :: zs, k :: l => by
    show (true && (rowsL zs l).all (isRow 2)) = true
    rw [rowsL_two]
    rfl
theorem rowsL_len : ∀ {zs : List Str} {l : List Dd}, zs.length = l.length → (rowsL zs l).length = l.length := by
  intro zs l h
  unfold rowsL
  rw [List.length_zipWith, h, Nat.min_self]
theorem rowsL_sz : ∀ {zs : List Str} {l : List Dd}, zs.length = l.length → Dd.szs (rowsL zs l) = Dd.szs l + 2 * l.length
  | [], [], _ => rfl
  | z :: zs, k :: l, h => by
    show (1 + (1 + (k.sz + 0))) + Dd.szs (rowsL zs l) = k.sz + Dd.szs l + 2 * (l.length + 1)
    rw [rowsL_sz (Nat.succ.inj h)]
    omega
  | [], _ :: _, h => by cases h
  | _ :: _, [], h => by cases h
theorem gt_let {d : Nat} {zs : List Str} {l : List Dd} {b : Dd} (hz : ∀ z ∈ zs, z ∈ names) (hn : zs.Nodup) (hlen : zs.length = l.length) (h0 : 0 < l.length) (h3 : l.length ≤ 3) (h : ∀ k ∈ l, Gt d k) (hb : Gt d b) : Gt (d + 1) (.tup [.str "let", .tup (rowsL zs l), b]) := by
  have h1 := hb.sz
  have h2 := szs_gt h
  have hp := pow_pos4 d
  have h4 : l.length * (8 * 4 ^ d - 5) ≤ 3 * (8 * 4 ^ d - 5) := Nat.mul_le_mul_right _ h3
  refine ⟨isN_mk ?_ (nice_other nw.2.2.2.2.2.2.2.2.1 nw.2.2.2.2.2.2.2.2.2.1) (fun p hp => ?_), by rw [p4]; show 1 + (1 + (1 + Dd.szs (rowsL zs l) + (b.sz + 0))) + 5 ≤ _; rw [rowsL_sz hlen]; omega⟩
  · rw [fw_let]
    show (decide (2 = 2) && (rowsL zs l).all (isRow 2) && (decide (0 < (rowsL zs l).length) && areNames (.tup ((rowsL zs l).map (nth 0))))) = true
    rw [rowsL_two, rowsL_names hlen, rowsL_len hlen, decide_eq_true h0, show areNames (.tup (zs.map Dd.str)) = true from areNames_ok hz hn]
    rfl
  · rw [pw_let] at hp
    have hp : p ∈ (rowsL zs l).map (nth 1) ++ [b] := hp
    rw [rowsL_terms hlen] at hp
    rcases List.mem_append.mp hp with e | e
    · exact (h p e).ok
    · rw [List.mem_singleton.mp e]; exact hb.ok
/-- a default: none, or a name and a term -/
def dfl : Option (Str × Dd) → Dd
  | none => .non
  | some q => .tup [.str q.1, q.2]
theorem dfl_ok {o : Option (Str × Dd)} (h : ∀ q, o = some q → q.1 ∈ names) : isDflt (dfl o) = true ∧ kindTup (dfl o) = false := by
  cases o with
  | none => exact ⟨rfl, rfl⟩
  | some q =>
    obtain ⟨h1, h2, _⟩ := names_ok q.1 (h q rfl)
    exact ⟨by show (true && isName (.str q.1)) = true; rw [h1]; rfl, decide_eq_false h2⟩
/-- rows of a case: tag, names, term -/
def rowsC (l : List (Int × List Str × Dd)) : List Dd := l.map fun q => .tup [.int q.1, nameT q.2.1, q.2.2]
/-- rows of a pick: number, term -/
def rowsP (l : List (Int × Dd)) : List Dd := l.map fun q => .tup [.int q.1, q.2]
theorem szs_C {d : Nat} : ∀ {l : List (Int × List Str × Dd)}, (∀ q ∈ l, q.2.1.length ≤ 2 ∧ Gt d q.2.2) → Dd.szs (rowsC l) ≤ l.length * (8 * 4 ^ d)
  | [], _ => Nat.zero_le _
  | q :: l, h => by
    obtain ⟨h1, h2⟩ := h q (List.mem_cons_self ..)
    have h2 := h2.sz
    have h3 := szs_C fun q hq => h q (List.mem_cons_of_mem _ hq)
    have h4 := szs_strs q.2.1
    show (1 + (1 + ((1 + Dd.szs (q.2.1.map Dd.str)) + (q.2.2.sz + 0)))) + Dd.szs (rowsC l) ≤ (l.length + 1) * (8 * 4 ^ d)
    rw [Nat.succ_mul]
    omega
theorem szs_P {d : Nat} : ∀ {l : List (Int × Dd)}, (∀ q ∈ l, Gt d q.2) → Dd.szs (rowsP l) ≤ l.length * (8 * 4 ^ d)
  | [], _ => Nat.zero_le _
  | q :: l, h => by
    have h2 := (h q (List.mem_cons_self ..)).sz
    have h3 := szs_P fun q hq => h q (List.mem_cons_of_mem _ hq)
    show (1 + (1 + (q.2.sz + 0))) + Dd.szs (rowsP l) ≤ (l.length + 1) * (8 * 4 ^ d)
    rw [Nat.succ_mul]
    omega
theorem dfl_sz {d : Nat} {o : Option (Str × Dd)} (h : ∀ q, o = some q → Gt d q.2) : (dfl o).sz + 3 ≤ 8 * 4 ^ d := by
  have hp := pow_pos4 d
  cases o with
  | none => show 1 + 3 ≤ _; omega
  | some q =>
    have := (h q rfl).sz
    show 1 + (1 + (q.2.sz + 0)) + 3 ≤ _
    omega
theorem choice_parts {d : Nat} {f : Dd} {rows : List Dd} {o : Option (Str × Dd)} (hf : Gt d f) (hr : ∀ q ∈ rows, Gt d (lastD q)) (ho : ∀ q, o = some q → Gt d q.2) : ∀ p ∈ gChoice [f, .tup rows, dfl o], isN (d + 1) p = true := fun p hp => by
  have hp : p ∈ f :: (rows.map lastD ++ dfltP (dfl o)) := hp
  rcases List.mem_cons.mp hp with e | e
  · rw [e]; exact hf.ok
  · rcases List.mem_append.mp e with e | e
    · obtain ⟨q, hq, rfl⟩ := List.mem_map.mp e
      exact (hr q hq).ok
    · cases o with
      | none => cases e
      | some q =>
        have e : p ∈ [q.2] := e
        rw [List.mem_singleton.mp e]
        exact (ho q rfl).ok
theorem gt_case {d : Nat} {f : Dd} {l : List (Int × List Str × Dd)} {o : Option (Str × Dd)} (hf : Gt d f) (hl : l.length ≤ 2) (h : ∀ q ∈ l, 0 ≤ q.1 ∧ q.1 ≤ 1000 ∧ (∀ z ∈ q.2.1, z ∈ names) ∧ q.2.1.Nodup ∧ q.2.1.length ≤ 2 ∧ Gt d q.2.2) (ho : ∀ q, o = some q → q.1 ∈ names ∧ Gt d q.2) :
    Gt (d + 1) (.tup [.str "case", f, .tup (rowsC l), dfl o]) := by
  have h1 := hf.sz
  have h2 := szs_C (d := d) (l := l) fun q hq => ⟨(h q hq).2.2.2.2.1, (h q hq).2.2.2.2.2⟩
  have h3 := dfl_sz (d := d) (o := o) fun q hq => (ho q hq).2
  have h4 : l.length * (8 * 4 ^ d) ≤ 2 * (8 * 4 ^ d) := Nat.mul_le_mul_right _ hl
  obtain ⟨k1, k2⟩ := dfl_ok (o := o) fun q hq => (ho q hq).1
  refine ⟨isN_mk ?_ ?_ ?_, by rw [p4]; show 1 + (1 + (f.sz + (1 + Dd.szs (rowsC l) + ((dfl o).sz + 0)))) + 5 ≤ _; omega⟩
  · rw [fw_case]
    show (decide (3 = 3) && (rowsC l).all (isRow 3) && isDflt (dfl o) && (rowsC l).all fun q => numIn 0 1000 (nth 0 q) && areNames (nth 1 q)) = true
    rw [k1, show (rowsC l).all (isRow 3) = true by unfold rowsC; rw [List.all_map, List.all_eq_true]; exact fun q _ => rfl,
      show ((rowsC l).all fun q => numIn 0 1000 (nth 0 q) && areNames (nth 1 q)) = true by
        unfold rowsC
        rw [List.all_map, List.all_eq_true]
        intro q hq
        obtain ⟨g1, g2, g3, g4, g5, g6⟩ := h q hq
        show ((decide (0 ≤ q.1) && decide (q.1 ≤ 1000)) && areNames (nameT q.2.1)) = true
        rw [decide_eq_true g1, decide_eq_true g2, areNames_ok g3 g4]
        rfl]
    rfl
  · unfold niceW
    rw [if_pos rfl]
    show (!kindTup (dfl o)) = true
    rw [k2]
    rfl
  · rw [show partsW "case" [f, .tup (rowsC l), dfl o] = _ from pw_case _]
    refine choice_parts hf (fun q hq => ?_) fun q hq => (ho q hq).2
    unfold rowsC at hq
    obtain ⟨x, hx, rfl⟩ := List.mem_map.mp hq
    exact (h x hx).2.2.2.2.2
theorem gt_pick {d : Nat} {f : Dd} {l : List (Int × Dd)} {o : Option (Str × Dd)} (hf : Gt d f) (hl : l.length ≤ 2) (h : ∀ q ∈ l, -10 ≤ q.1 ∧ q.1 ≤ 10 ∧ Gt d q.2) (hn : (l.map (·.1)).Nodup) (ho : ∀ q, o = some q → q.1 ∈ names ∧ Gt d q.2) :
    Gt (d + 1) (.tup [.str "pick", f, .tup (rowsP l), dfl o]) := by
  have h1 := hf.sz
  have h2 := szs_P (d := d) (l := l) fun q hq => (h q hq).2.2
  have h3 := dfl_sz (d := d) (o := o) fun q hq => (ho q hq).2
  have h4 : l.length * (8 * 4 ^ d) ≤ 2 * (8 * 4 ^ d) := Nat.mul_le_mul_right _ hl
  obtain ⟨k1, k2⟩ := dfl_ok (o := o) fun q hq => (ho q hq).1
  have e1 : ((rowsP l).map (nth 0)) = l.map fun q => Dd.int q.1 := by unfold rowsP; rw [List.map_map]; rfl
  refine ⟨isN_mk ?_ ?_ ?_, by rw [p4]; show 1 + (1 + (f.sz + (1 + Dd.szs (rowsP l) + ((dfl o).sz + 0)))) + 5 ≤ _; omega⟩
  · rw [fw_pick]
    show (decide (3 = 3) && (rowsP l).all (isRow 2) && isDflt (dfl o) && (((rowsP l).map (nth 0)).all cNum && distK (((rowsP l).map (nth 0)).map keyD))) = true
    rw [k1, e1, show (rowsP l).all (isRow 2) = true by unfold rowsP; rw [List.all_map, List.all_eq_true]; exact fun q _ => rfl,
      show ((l.map fun q => Dd.int q.1).all cNum) = true by
        rw [List.all_map, List.all_eq_true]
        intro q hq
        obtain ⟨g1, g2, g3⟩ := h q hq
        show (decide (-1000000000000000 ≤ q.1) && decide (q.1 ≤ 1000000000000000)) = true
        rw [decide_eq_true (by omega), decide_eq_true (by omega)]
        rfl,
      dist_nodup (by rw [List.map_map]; exact (List.pairwise_map.mpr ((List.pairwise_map.mp hn).imp fun hab e => hab (Sum.inl.inj e))))]
    rfl
  · unfold niceW
    rw [if_neg (by decide +kernel), if_pos rfl]
    show (!kindTup (dfl o)) = true
    rw [k2]
    rfl
  · rw [show partsW "pick" [f, .tup (rowsP l), dfl o] = _ from pw_pick _]
    refine choice_parts hf (fun q hq => ?_) fun q hq => (ho q hq).2
    unfold rowsP at hq
    obtain ⟨x, hx, rfl⟩ := List.mem_map.mp hq
    exact (h x hx).2.2
end Toy

set_option Elab.async false
set_option linter.all false
set_option maxRecDepth 100000
set_option maxHeartbeats 4000000
/-! Part I: names drawn. -/
namespace Toy
open PySem L2
open PyProof.Rows (envOfC)
theorem at_str {zs : List Str} {i : Int} (h0 : 0 ≤ i) (h1 : i < (zs.length : Int)) : ∃ z ∈ zs, atI (zs.map V.str) i = some (.str z) := by
  have hk : i.toNat < zs.length := by omega
  refine ⟨zs[i.toNat], List.getElem_mem _, ?_⟩
  have q : atI (zs.map V.str) ((i.toNat : Nat) : Int) = some (.str zs[i.toNat]) := atI_nat (by rw [List.getElem?_map, List.getElem?_eq_getElem hk] <;> rfl)
  rw [show ((i.toNat : Nat) : Int) = i by omega] at q
  exact q
theorem flat_strs : ∀ l : List Str, (l.map V.str).all flatV = true
  | [] => rfl
  | n :: l => by
    rw [List.map_cons, List.all_cons, flat_strs l]
    rfl
theorem cal_none {P : Program} {w : World} {K : PySem.W.Frag} {mg : Str → Option Value} {base : Heap} {x : Str} {st : Stmt} {f : Addr} {fd : FuncData} {ps : List Str} {k : Nat} {sp : Sp} (F : Fun K x x st f fd) (hm : mg x = some (.ref f)) (b : Binds K fd ps []) (no : ∀ vs H Q E, ¬ sp vs H Q E) : C8.Cal P w K mg base k x sp [] :=
  ⟨f, fd, ps, [], ⟨fun vs H Q E h => (no _ _ _ _ h).elim, fun A outer s H args us vs Q E hr e0 hb r hsp => (no _ _ _ _ hsp).elim⟩, hm, F.kp, b, .nil⟩
/-- no lists -/
def F0 : Addr → Prop := fun _ => False
section
variable {P : Program} {w : World} {K : PySem.W.Frag} {mg : Str → Option Value} {base : Heap}
end
end Toy

set_option Elab.async false
set_option linter.all false
set_option maxRecDepth 100000
set_option maxHeartbeats 4000000
/-! Part J: terms drawn: cases and picks. -/
namespace Toy
open PySem L2
open PyProof.Rows (envOfC)
theorem F0.to {B : Addr → Prop} {H : Hp} {k : Dd} {v : V} (h : k.At F0 H v) : k.At B H v := h.weak fun _ _ _ z => z.elim
theorem ed (e : Nat) (x : V) : [x, V.int (((e + 1 : Nat) : Int) - 1)] = [x, V.int (e : Int)] := by rw [show ((e + 1 : Nat) : Int) - 1 = (e : Int) by omega]
theorem c8 (e : Nat) : 8 ≤ 8 * 4 ^ e := by have := pow_pos4 e; omega
section
variable {P : Program} {w : World} {K : PySem.W.Frag} {mg : Str → Option Value} {base : Heap}
theorem at_tup {B : Addr → Prop} {H : Hp} {a : Addr} {xs : List V} {l : List Dd} (h : H a = some (.tup xs)) (hs : Dd.Ats B H l xs) : Dd.At B H (.tup l) (.ref a) := ⟨a, xs, rfl, h, hs⟩
theorem ats_cons {B : Addr → Prop} {H : Hp} {x : V} {xs : List V} {k : Dd} {l : List Dd} (h : k.At B H x) (hs : Dd.Ats B H l xs) : Dd.Ats B H (k :: l) (x :: xs) := ⟨x, xs, rfl, h, hs⟩
theorem at_int' {B : Addr → Prop} {H : Hp} {i : Int} : Dd.At B H (.int i) (.int i) := rfl
theorem at_str' {B : Addr → Prop} {H : Hp} {z : Str} (h : z.length ≤ 1000) : Dd.At B H (.str z) (.str z) := ⟨rfl, h⟩
theorem ats_nil {B : Addr → Prop} {H : Hp} : Dd.Ats B H [] [] := rfl
end
end Toy

set_option Elab.async false
set_option linter.all false
set_option maxRecDepth 100000
set_option maxHeartbeats 8000000
/-! Part K: terms drawn. -/
namespace Toy
open PySem L2
open PyProof.Rows (envOfC)
theorem at_intN {ns : List Int} {i : Int} (h0 : 0 ≤ i) (h1 : i < (ns.length : Int)) : ∃ v ∈ ns, atI (ns.map V.int) i = some (.int v) := by
  have hk : i.toNat < ns.length := by omega
  refine ⟨ns[i.toNat], List.getElem_mem _, ?_⟩
  have q : atI (ns.map V.int) ((i.toNat : Nat) : Int) = some (.int ns[i.toNat]) := atI_nat (by rw [List.getElem?_map, List.getElem?_eq_getElem hk] <;> rfl)
  rw [show ((i.toNat : Nat) : Int) = i by omega] at q
  exact q
section
variable {P : Program} {w : World} {K : PySem.W.Frag} {mg : Str → Option Value} {base : Heap}
end
end Toy

set_option Elab.async false
set_option linter.all false
set_option maxRecDepth 100000
set_option maxHeartbeats 4000000
/-! Part L: how many terms a term has, how many lams lead it. -/
namespace Toy
open PySem L2
open PyProof.Rows (envOfC)
/-- the terms in a term, itself among them -/
def cntT : Nat → Dd → Nat
  | 0, _ => 0
  | n + 1, k => 1 + ((partsD k).map (cntT n)).sum
theorem tt_parts {k : Dd} (h : isTT k = true) : formB k = true ∧ ∀ p ∈ partsD k, isTT p = true := by
  rw [isTT_eq] at h
  obtain ⟨h1, h2⟩ := fand h
  exact ⟨h1, List.all_eq_true.mp h2⟩
theorem cntT_stab : ∀ (n m : Nat) (k : Dd), isTT k = true → k.sz ≤ n → k.sz ≤ m → cntT n k = cntT m k
  | 0, _, k, _, h, _ => by have := sz_pos k; omega
  | _ + 1, 0, k, _, _, h => by have := sz_pos k; omega
  | n + 1, m + 1, k, ht, h1, h2 => by
    obtain ⟨hf, hp⟩ := tt_parts ht
    have hs := parts_sz hf
    show 1 + ((partsD k).map (cntT n)).sum = 1 + ((partsD k).map (cntT m)).sum
    rw [List.map_congr_left fun p hp' => by
      have := szs_mem hp'
      exact cntT_stab n m p (hp p hp') (by omega) (by omega)]
def cnt (k : Dd) : Nat := cntT k.sz k
theorem cnt_eq {k : Dd} (h : isTT k = true) : cnt k = 1 + ((partsD k).map cnt).sum := by
  obtain ⟨hf, hp⟩ := tt_parts h
  have hs := parts_sz hf
  have e : cnt k = cntT (k.sz + 1) k := cntT_stab _ _ k h (Nat.le_refl _) (Nat.le_succ _)
  rw [e]
  show 1 + ((partsD k).map (cntT k.sz)).sum = _
  rw [List.map_congr_left fun p hp' => by
    have := szs_mem hp'
    exact cntT_stab k.sz p.sz p (hp p hp') (by omega) (Nat.le_refl _)]
  rfl
/-- lams that lead a term -/
def arT : Nat → Dd → Nat
  | n + 1, .tup (.str w :: r) => if w = "lam" then 1 + arT n (arg 1 r) else 0
  | _, _ => 0
theorem arT_stab : ∀ (n m : Nat) (k : Dd), isTT k = true → k.sz ≤ n → k.sz ≤ m → arT n k = arT m k
  | 0, _, k, _, h, _ => by have := sz_pos k; omega
  | _ + 1, 0, k, _, _, h => by have := sz_pos k; omega
  | n + 1, m + 1, k, ht, h1, h2 => by
    obtain ⟨hf, hp⟩ := tt_parts ht
    have hs := parts_sz hf
    match k, hf, hp, hs with
    | .tup (.str w :: r), hf, hp, hs =>
      show (if w = "lam" then 1 + arT n (arg 1 r) else 0) = if w = "lam" then 1 + arT m (arg 1 r) else 0
      by_cases c : w = "lam"
      · rw [if_pos c, if_pos c]
        have hm : arg 1 r ∈ partsD (.tup (.str w :: r)) := by
          show arg 1 r ∈ partsW w r
          rw [c, pw_lam]
          exact List.mem_singleton.mpr rfl
        have := szs_mem hm
        rw [arT_stab n m _ (hp _ hm) (by omega) (by omega)]
      · rw [if_neg c, if_neg c]
def ar (k : Dd) : Nat := arT k.sz k
theorem ar_lam {x b : Dd} (h : isTT (.tup [.str "lam", x, b]) = true) : ar (.tup [.str "lam", x, b]) = 1 + ar b ∧ isTT b = true := by
  obtain ⟨hf, hp⟩ := tt_parts h
  have hs := parts_sz hf
  have hm : b ∈ partsD (.tup [.str "lam", x, b]) := by
    show b ∈ partsW "lam" [x, b]
    rw [pw_lam]
    exact List.mem_singleton.mpr rfl
  have := szs_mem hm
  refine ⟨?_, hp _ hm⟩
  have e : ar (.tup [.str "lam", x, b]) = arT ((Dd.tup [.str "lam", x, b]).sz + 1) (.tup [.str "lam", x, b]) := arT_stab _ _ _ h (Nat.le_refl _) (Nat.le_succ _)
  rw [e]
  show (if ("lam" : Str) = "lam" then 1 + arT (Dd.tup [.str "lam", x, b]).sz b else 0) = _
  rw [if_pos rfl, arT_stab _ b.sz b (hp _ hm) (by omega) (Nat.le_refl _)]
  rfl
theorem ar_other {w : Str} {r : List Dd} (h : w ≠ "lam") : ar (.tup (.str w :: r)) = 0 := by
  unfold ar
  rw [show (Dd.tup (.str w :: r)).sz = Dd.szs (.str w :: r) + 1 from Nat.add_comm 1 _]
  show (if w = "lam" then _ else 0) = 0
  rw [if_neg h]
theorem len2 {α : Type} {l : List α} (h : l.length = 2) : ∃ x y, l = [x, y] := by
  match l, h with
  | [x, y], _ => exact ⟨x, y, rfl⟩
section
variable {P : Program} {w : World} {K : PySem.W.Frag} {mg : Str → Option Value} {base : Heap}
def spSize : Sp := fun vs H Q _ => ∃ (B : Addr → Prop) (v : V) (k : Dd), vs = [v] ∧ k.At B H v ∧ isTT k = true ∧ k.sz ≤ 1000000 ∧ ∀ H', Same H H' → Q (.int (cnt k : Int)) H'
def spArity : Sp := fun vs H Q _ => ∃ (B : Addr → Prop) (v : V) (k : Dd), vs = [v] ∧ k.At B H v ∧ isTT k = true ∧ k.sz ≤ 1000000 ∧ Q (.int (ar k : Int)) H
end
end Toy

set_option Elab.async false
set_option linter.all false
set_option maxRecDepth 100000
set_option maxHeartbeats 4000000
/-! Part M: parts with the names that are bound around them, as the law finds them. -/
namespace Toy
open PySem L2
open PyProof.Rows (envOfC)
def strOf : Dd → Str
  | .str s => s
  | _ => Str.empty
def strsOf (d : Dd) : List Str := (tl d).map strOf
def dfltNs : Dd → List (List Str)
  | .non => []
  | d => [[strOf (nth 0 d)]]
/-- the names bound around each part -/
def scopesW (w : Str) (r : List Dd) : List (List Str) :=
  if w = "app" then [[], []] else if w = "lam" then [[strOf (arg 0 r)]]
  else if w = "let" then (tl (arg 0 r)).map (fun _ => (tl (arg 0 r)).map fun q => strOf (nth 0 q)) ++ [(tl (arg 0 r)).map fun q => strOf (nth 0 q)]
  else if w = "seq" then [[], [strOf (arg 0 r)]] else if w = "con" then (tl (arg 1 r)).map fun _ => []
  else if w = "case" then [] :: ((tl (arg 1 r)).map (fun q => strsOf (nth 1 q)) ++ dfltNs (arg 2 r))
  else if w = "pick" then [] :: ((tl (arg 1 r)).map (fun _ => []) ++ dfltNs (arg 2 r))
  else if w = "prim" then [[], []] else if w = "note" then [[]] else []
def scopesD : Dd → List (List Str)
  | .tup (.str w :: r) => scopesW w r
  | _ => []
def pairD (ns : List Str) (p : Dd) : Dd := .tup [nameT ns, p]
def innerD (k : Dd) : List Dd := List.zipWith pairD (scopesD k) (partsD k)
theorem name_str {d : Dd} (h : isName d = true) : d = .str (strOf d) := by
  match d, h with
  | .str s, _ => rfl
theorem names_back {d : Dd} (h : areNames d = true) : d = nameT (strsOf d) := by
  match d, h with
  | .tup l, h =>
    have h1 := List.all_eq_true.mp (fand h).1
    show Dd.tup l = .tup ((l.map strOf).map Dd.str)
    rw [List.map_map]
    congr 1
    have : l.map (Dd.str ∘ strOf) = l.map id := List.map_congr_left fun x hx => (name_str (h1 x hx)).symm
    rw [this, List.map_id]
section
variable {P : Program} {w : World} {K : PySem.W.Frag} {mg : Str → Option Value} {base : Heap}
structure TxtI (mg : Str → Option Value) : Prop where
  zisinstance : mg "isinstance" = none
  zint : mg "int" = none
  zbool : mg "bool" = none
  zrange : mg "range" = none
  ztuple : mg "tuple" = none
  zlist : mg "list" = none
def spIsNum : Sp := fun vs H Q _ => ∃ a b : Int, vs = [.int a, .int b] ∧ Q (.bl (decide (a = b))) H
end
end Toy

set_option Elab.async false
set_option linter.all false
set_option maxRecDepth 100000
set_option maxHeartbeats 4000000
/-! Part N: parts with the names around them, as the law finds them. -/
namespace Toy
open PySem L2
open PyProof.Rows (envOfC)
theorem sw_app (r : List Dd) : scopesW "app" r = [[], []] := by
  unfold scopesW
  rw [if_pos rfl]
theorem sw_lam (r : List Dd) : scopesW "lam" r = [[strOf (arg 0 r)]] := by
  unfold scopesW
  rw [if_neg (by decide +kernel), if_pos rfl]
theorem sw_let (r : List Dd) : scopesW "let" r = (tl (arg 0 r)).map (fun _ => (tl (arg 0 r)).map fun q => strOf (nth 0 q)) ++ [(tl (arg 0 r)).map fun q => strOf (nth 0 q)] := by
  unfold scopesW
  rw [if_neg (by decide +kernel), if_neg (by decide +kernel), if_pos rfl]
theorem sw_seq (r : List Dd) : scopesW "seq" r = [[], [strOf (arg 0 r)]] := by
  unfold scopesW
  rw [if_neg (by decide +kernel), if_neg (by decide +kernel), if_neg (by decide +kernel), if_pos rfl]
theorem sw_con (r : List Dd) : scopesW "con" r = (tl (arg 1 r)).map fun _ => [] := by
  unfold scopesW
  rw [if_neg (by decide +kernel), if_neg (by decide +kernel), if_neg (by decide +kernel), if_neg (by decide +kernel), if_pos rfl]
theorem sw_case (r : List Dd) : scopesW "case" r = [] :: ((tl (arg 1 r)).map (fun q => strsOf (nth 1 q)) ++ dfltNs (arg 2 r)) := by
  unfold scopesW
  rw [if_neg (by decide +kernel), if_neg (by decide +kernel), if_neg (by decide +kernel), if_neg (by decide +kernel), if_neg (by decide +kernel), if_pos rfl]
theorem sw_pick (r : List Dd) : scopesW "pick" r = [] :: ((tl (arg 1 r)).map (fun _ => []) ++ dfltNs (arg 2 r)) := by
  unfold scopesW
  rw [if_neg (by decide +kernel), if_neg (by decide +kernel), if_neg (by decide +kernel), if_neg (by decide +kernel), if_neg (by decide +kernel), if_neg (by decide +kernel), if_pos rfl]
theorem sw_prim (r : List Dd) : scopesW "prim" r = [[], []] := by
  unfold scopesW
  rw [if_neg (by decide +kernel), if_neg (by decide +kernel), if_neg (by decide +kernel), if_neg (by decide +kernel), if_neg (by decide +kernel), if_neg (by decide +kernel), if_neg (by decide +kernel), if_pos rfl]
theorem sw_note (r : List Dd) : scopesW "note" r = [[]] := by
  unfold scopesW
  rw [if_neg (by decide +kernel), if_neg (by decide +kernel), if_neg (by decide +kernel), if_neg (by decide +kernel), if_neg (by decide +kernel), if_neg (by decide +kernel), if_neg (by decide +kernel), if_neg (by decide +kernel), if_pos rfl]
theorem zip_nil : ∀ ps : List Dd, List.zipWith pairD (ps.map fun _ => []) ps = ps.map (pairD [])
  | [] => rfl
  | p :: ps => by
    show pairD [] p :: List.zipWith pairD (ps.map fun _ => []) ps = _
    rw [zip_nil ps]
    rfl
theorem rows_are {n : Nat} {k : Dd} (h : areRows n k = true) : ∃ l, k = .tup l ∧ ∀ q ∈ l, ∃ m, q = .tup m ∧ m.length = n := by
  match k, h with
  | .tup l, h => exact ⟨l, rfl, fun q hq => by
      have := List.all_eq_true.mp h q hq
      match q, this with
      | .tup m, t => exact ⟨m, rfl, of_decide_eq_true t⟩⟩
theorem zip_let (l0 : List Dd) (y : Dd) (ns : List Str) : ∀ l : List Dd, List.zipWith pairD (l.map (fun _ => ns) ++ [ns]) (l.map (nth 1) ++ [y]) = (l.map fun q => pairD ns (nth 1 q)) ++ [pairD ns y]
  | [] => rfl
  | q :: l => by
    show pairD ns (nth 1 q) :: List.zipWith pairD (l.map (fun _ => ns) ++ [ns]) (l.map (nth 1) ++ [y]) = _
    rw [zip_let l0 y ns l]
    rfl
theorem ats_strs {B : Addr → Prop} {H : Hp} : ∀ {zs : List Str}, (∀ z ∈ zs, z.length ≤ 1000) → Dd.Ats B H (zs.map Dd.str) (zs.map V.str)
  | [], _ => rfl
  | z :: zs, h => ⟨.str z, zs.map V.str, rfl, ⟨rfl, h z (List.mem_cons_self ..)⟩, ats_strs fun y hy => h y (List.mem_cons_of_mem _ hy)⟩
theorem form_wordN {w : Str} {r : List Dd} (h : formW w r = true) : w ∈ words := by
  refine Classical.byContradiction fun n => ?_
  rw [form_out n] at h
  cases h
/-- a row of a case or of a pick: its names and its term -/
def rowPair (z : Str) (q : Dd) : Dd := if z = "case" then pairD (strsOf (nth 1 q)) (lastD q) else pairD [] (lastD q)
theorem zip_rows {z : Str} {f : Dd → List Str} : ∀ (l : List Dd), (∀ q ∈ l, rowPair z q = pairD (f q) (lastD q)) → List.zipWith pairD (l.map f) (l.map lastD) = l.map (rowPair z)
  | [], _ => rfl
  | q :: l, h => by
    show pairD (f q) (lastD q) :: List.zipWith pairD (l.map f) (l.map lastD) = rowPair z q :: l.map (rowPair z)
    rw [h q (List.mem_cons_self ..), zip_rows l fun y hy => h y (List.mem_cons_of_mem _ hy)]
theorem free_of {H H' : Hp} (s : Same H H') {a : Addr} (h : H' a = none) : H a = none := by
  cases e : H a with
  | none => rfl
  | some u => rw [s a u e] at h; cases h
theorem len3 {α : Type} {l : List α} (h : l.length = 3) : ∃ x y z, l = [x, y, z] := by
  match l, h with
  | [x, y, z], _ => exact ⟨x, y, z, rfl⟩
section
variable {P : Program} {w : World} {K : PySem.W.Frag} {mg : Str → Option Value} {base : Heap}
def spInner : Sp := fun vs H Q _ => ∃ (B : Addr → Prop) (v : V) (k : Dd), vs = [v] ∧ k.At B H v ∧ formB k = true ∧ k.sz ≤ 1000000 ∧ (∀ a, H a = none → ¬ B a) ∧ ∀ (L : Addr) (xs : List V) (H' : Hp), Same H H' → H L = none → H' L = some (.lst xs) → Dd.Ats B H' (innerD k) xs → Q (.ref L) H'
end
end Toy

set_option Elab.async false
set_option linter.all false
set_option maxRecDepth 100000
set_option maxHeartbeats 4000000
/-! Part O: as many scopes as parts; the law's count of terms. -/
namespace Toy
open PySem L2
open PyProof.Rows (envOfC)
theorem dflt_len {d : Dd} (h : isDflt d = true) : (dfltNs d).length = (dfltP d).length := by
  match d, h with
  | .non, _ => rfl
  | .tup _, _ => rfl
theorem scopes_len {k : Dd} (h : formB k = true) : (scopesD k).length = (partsD k).length := by
  obtain ⟨z, r, rfl, hf⟩ := form_tup h
  show (scopesW z r).length = (partsW z r).length
  have hw := form_wordN hf
  simp only [words, List.mem_cons, List.not_mem_nil, or_false] at hw
  rcases hw with rfl | rfl | rfl | rfl | rfl | rfl | rfl | rfl | rfl | rfl | rfl
  · rw [pw_num, show scopesW "num" r = [] by unfold scopesW; simp (config := { decide := true })]
    rfl
  · rw [pw_var, show scopesW "var" r = [] by unfold scopesW; simp (config := { decide := true })]
    rfl
  · rw [fw_app] at hf
    rw [sw_app, pw_app]
    exact (of_decide_eq_true hf).symm
  · rw [sw_lam, pw_lam]
    rfl
  · rw [sw_let, pw_let]
    unfold gLet
    rw [List.length_append, List.length_append, List.length_map, List.length_map]
    rfl
  · rw [fw_seq] at hf
    rw [sw_seq, pw_seq, List.length_drop, of_decide_eq_true (fand hf).1]
    rfl
  · rw [sw_con, pw_con, List.length_map]
  · rw [fw_case] at hf
    rw [sw_case, pw_case]
    unfold gChoice
    rw [List.length_cons, List.length_cons, List.length_append, List.length_append, List.length_map, List.length_map, dflt_len (fand (fand hf).1).2]
  · rw [fw_pick] at hf
    rw [sw_pick, pw_pick]
    unfold gChoice
    rw [List.length_cons, List.length_cons, List.length_append, List.length_append, List.length_map, List.length_map, dflt_len (fand (fand hf).1).2]
  · rw [fw_prim] at hf
    rw [sw_prim, pw_prim, List.length_drop, of_decide_eq_true (fand hf).1]
    rfl
  · rw [sw_note, pw_note]
    rfl
section
variable {P : Program} {w : World} {K : PySem.W.Frag} {mg : Str → Option Value} {base : Heap}
def spLSize (n : Nat) : Sp := fun vs H Q _ => ∃ (B : Addr → Prop) (v : V) (k : Dd), vs = [v] ∧ k.At B H v ∧ isN n k = true ∧ k.sz ≤ 1000000 ∧ (∀ a, H a = none → ¬ B a) ∧ ∀ H', Same H H' → Q (.int (cnt k : Int)) H'
end
end Toy

set_option Elab.async false
set_option linter.all false
set_option maxRecDepth 100000
set_option maxHeartbeats 4000000
/-! Part P: own rules: t[::-1] of a tuple, names += more of tuples, sorted of texts and of dicts, the order of texts. -/
namespace Toy
open PySem PySem.Spec PyProof.Rows L2
/-! ### t[::-1], t a tuple -/
section
variable {prog : Program} {w : World} {A : Around} {E : Value → Shared → Prop} {s : Shared}
theorem rev_adjust (n : Nat) : Builtin.Slice.sliceAdjust none none (-1) (n : Int) = ((n : Int) - 1, -1) := by
  first
    | rfl
    | simp [Builtin.Slice.sliceAdjust]
theorem rev_places (n : Nat) : Builtin.Slice.slicePlaces ((n : Int) - 1) (-1) (-1) = n := by
  unfold Builtin.Slice.slicePlaces
  by_cases h : n = 0
  · subst h
    decide
  · simp
    omega
theorem sliceApplied_rev {sl : Addr} {tk : Tok} {n : Nat} {Q : Int × Int × Nat → Shared → Prop} (hs : s.heap.IsSliceOf sl .none .none (.int (-1) tk))
    (h : Q ((n : Int) - 1, -1, n) s) : wpAny (model prog w) A (Builtin.Slice.sliceApplied (.ref sl) (pure (n : Int))) Q E s := by
  obtain ⟨os, hos, hcs, hds⟩ := id hs
  unfold Builtin.Slice.sliceApplied Builtin.Slice.sliceFields
  refine wpAny_bind (wpAny_bind (wpAny_field hos hds (x := .none) rfl (wpAny_bind (wpAny_field hos hds (x := .none) rfl (wpAny_bind (wpAny_field hos hds (x := .int (-1) tk) rfl (wpAny_pure ?_)))))))
  refine wpAny_bind (HT.slicePart_ (.int (-1) tk) ?_)
  show wpAny _ _ (if ((-1 : Int) == 0) = true then _ else _) _ _ s
  rw [if_neg (by decide)]
  refine wpAny_bind (HT.slicePart_ .none (wpAny_bind (HT.slicePart_ .none (wpAny_bind (wpAny_pure ?_)))))
  show wpAny _ _ (match Builtin.Slice.sliceAdjust none none (-1) (n : Int) with | (lo, hi) => pure (lo, (-1 : Int), Builtin.Slice.slicePlaces lo hi (-1))) _ _ s
  rw [rev_adjust n]
  show wpAny _ _ (pure ((n : Int) - 1, (-1 : Int), Builtin.Slice.slicePlaces ((n : Int) - 1) (-1) (-1))) _ _ s
  rw [rev_places]
  exact wpAny_pure h
theorem fm_congr {α β : Type} {f g : α → Option β} : ∀ {l : List α}, (∀ x ∈ l, f x = g x) → l.filterMap f = l.filterMap g
  | [], _ => rfl
  | a :: l, h => by
    rw [List.filterMap_cons, List.filterMap_cons, h a (List.mem_cons_self ..), fm_congr fun x hx => h x (List.mem_cons_of_mem _ hx)]
theorem pick_rev (xs : Array Value) : ((List.range xs.size).filterMap fun (m : Nat) => xs[((xs.size : Int) - 1 + (m : Int) * -1).toNat]?).toArray = xs.toList.reverse.toArray := by
  congr 1
  have e1 : ((List.range xs.size).filterMap fun (m : Nat) => xs[((xs.size : Int) - 1 + (m : Int) * -1).toNat]?) = ((List.range xs.size).map fun k => xs.size - 1 - k).filterMap (xs[·]?) := by
    rw [List.filterMap_map]
    refine fm_congr fun m hm => ?_
    have hm' := List.mem_range.mp hm
    show xs[((xs.size : Int) - 1 + (m : Int) * -1).toNat]? = xs[xs.size - 1 - m]?
    rw [show ((xs.size : Int) - 1 + (m : Int) * -1).toNat = xs.size - 1 - m by omega]
  rw [e1, PySem.W.krv_range, List.filterMap_reverse, PySem.W.krv_all]
theorem getItem_tuple_rev {t sl : Addr} {items : Array Value} {tk : Tok} {Q : Value → Shared → Prop} (ht : IsTup s.heap t items) (hs : s.heap.IsSliceOf sl .none .none (.int (-1) tk))
    (h : Q (.ref s.heap.objs.size) { s with heap := s.heap.push { cls := .type "tuple", data := .seq items.toList.reverse.toArray } }) (hsz : items.size ≤ sizeLine) : wpAny (model prog w) A (getItem (.ref t) (.ref sl)) Q E s := by
  have htake : sizeOk (.seq items.toList.reverse.toArray) := by
    show items.toList.reverse.toArray.size ≤ sizeLine
    rw [List.size_toArray, List.length_reverse, Array.length_toList]
    exact hsz
  obtain ⟨os, hos, hcs, hds⟩ := id hs
  have hTs : s.TypeIs (.ref sl) "slice" := ⟨os, hos, hcs⟩
  unfold getItem
  try with_reducible refine wpAny_holding ?_
  first | refine wpAny_bind (wpAny_pure ?_) | skip
  refine wpAny_bind (wpAny_sequenceKey ht.typeIs (by decide) ?_)
  refine wpAny_bind (wpAny_callSpecial?_slot (name := Str.ofString "__getitem__") ht.typeIs PyProof.Rows.slot_tuple_getitem
    (wpAny_call_entry PyProof.Rows.slot_tuple_getitem ht.typeIs entry_tuple_getitem ?_ (args_tuple_getitem _ _)))
  show wpAny _ _ (Builtin.Tuple.tupleItemsOf (.ref t) >>= _) _ _ s
  refine wpAny_bind (tupleItemsOf_ ht ?_)
  refine wpAny_bind (wpAny_typeOf hTs ?_)
  rw [if_pos (by decide)]
  refine wpAny_bind (sliceApplied_rev hs ?_)
  have hno : ¬ ((((items.size : Int) - 1) == 0 && (-1 : Int) == 1 && items.size == items.size) = true) := by
    intro q
    rw [Bool.and_eq_true, Bool.and_eq_true] at q
    exact absurd q.1.2 (by decide)
  show wpAny _ _ (if (((items.size : Int) - 1) == 0 && (-1 : Int) == 1 && items.size == items.size) = true then _ else _) _ _ s
  rw [if_neg hno, pick_rev]
  first
    | exact wpAny_bind (m := Builtin.Tuple.tupleExact _) (wpAny_newObj_type (wpAny_pure ⟨_, rfl, wpAny_pure h⟩) htake)
    | exact wpAny_bind (m := Builtin.Tuple.tupleExact _) (wpAny_newObj_type (wpAny_bind (wpAny_pure (wpAny_pure ⟨_, rfl, wpAny_pure h⟩))) htake)
    | exact wpAny_bind (wpAny_bind (m := Builtin.Tuple.tupleExact _) (wpAny_newObj_type (wpAny_pure (wpAny_pure ⟨_, rfl, wpAny_pure h⟩)) htake))
    | exact wpAny_bind (wpAny_bind (m := Builtin.Tuple.tupleExact _) (wpAny_newObj_type (wpAny_pure ⟨_, rfl, wpAny_pure h⟩) htake))
end
section
variable {X : Cx} {e st : Expr} {te ts : TE} {p2 pos : Pos}
/-- t[::st], where st is -1 and t a tuple -/
def tRev (K : PySem.W.Frag) (te ts : TE) : TE := fun σ H Q => te σ H fun x H1 => ts σ H1 fun k H2 => k = .int (-1) ∧ ∃ a xs, x = .ref a ∧ SqT K H2 a xs ∧ ∀ p, H2 p = none → Q (.ref p) (upd H2 p (.tup xs.reverse))
theorem pe_rev {ops : Addr → Addr → List Value} (he : PE X e te) (hst : PE X st ts) (hops : ∀ a b : Addr, subscripted (.Slice none none (some st) p2) false (.ref a) (.ref b) = operate (ops a b) (getItem (.ref a) (.ref b))) : PE X (.Subscript e (.Slice none none (some st) p2) pos) (tRev X.K te ts) := by
  refine ⟨fun pins s σ H Q I h => ?_⟩
  refine Subscript_ (thn (he.run pins s σ H _ I h) fun v s1 ⟨x, H1, I1, r1, q1⟩ => ?_)
  refine wpAny_Slice ?_
  rw [evalPart_none]
  refine wpAny_pure ?_
  refine wpAny_pure ?_
  rw [evalPart_some]
  refine thn (hst.run pins s1 σ H1 _ I1 q1) fun vk s3 ⟨k, H3, I3, rk, ek, a, xs, ex, hx, q⟩ => ?_
  subst ek ex
  obtain ⟨tk, rfl⟩ := rk
  cases r1
  have I4 : Inv X pins σ H3 { s3 with heap := s3.heap.push { cls := .type "slice", data := .fields #[.none, .none, .int (-1) tk] } } := I3.kept (t' := s3.toks) fun b ob q => Heap.get?_push_of_some _ q
  obtain ⟨its, r, ht, hz⟩ := I4.tuple hx
  have hlen : its.toArray.size = xs.length := by rw [List.size_toArray]; exact r.length.symm
  show wpAny (model X.prog X.w) X.A (subscriptTail e (.Slice none none (some st) p2) (.ref a) (.ref s3.heap.objs.size)) (EP X pins σ Q) X.xe { s3 with heap := s3.heap.push { cls := .type "slice", data := .fields #[.none, .none, .int (-1) tk] } }
  refine tail_any (ops := ops a s3.heap.objs.size) ht.typeIs PyProof.Rows.slot_tuple_getitem.lookup (getItem_tuple_rev ht (Heap.IsSliceOf.new ..) ?_ (by rw [hlen]; exact hz)) (hops _ _)
  refine ⟨.ref _, _, I4.laid (t' := s3.toks) (o := .tup xs.reverse) (fun b ob q => Heap.get?_push_of_some _ q) (Nat.le_refl _) ?_, rfl, q _ (I4.hok.fresh (Nat.le_refl _))⟩
  exact ⟨by rw [List.length_reverse]; exact hz, _, r.reverse, IsTup.new _ _⟩
end
example {X : Cx} {e : Expr} {te : TE} {p1 p2 p3 p4 : Pos} (he : PE X e te) : ∃ t, PE X (.Subscript e (.Slice none none (some (.UnaryOp .USub (.Constant (.int 1) 0 p1) p2)) p3) p4) t := ⟨_, pe_rev he (pe_un un_neg pe_int) (fun _ _ => by with_unfolding_all rfl)⟩

/-! ### t += u -/
theorem no_iadd_tup : typeLookup (.type "tuple") (dunderI "add") = pure none := by rw [typeLookup_type, builtinLookup_eq_fast] <;> kernel_rfl
section
variable {prog : Program} {w : World} {A : Around} {E : Value → Shared → Prop} {s : Shared}
theorem iadd_tup {t b : Addr} {us vs : List Value} {Q : Value → Shared → Prop} (p1 : IsTup s.heap t us.toArray) (p2 : IsTup s.heap b vs.toArray) (q0 : us = [] → Q (.ref b) s) (q1 : us ≠ [] → vs = [] → Q (.ref t) s)
    (q2 : us ≠ [] → vs ≠ [] → Q (.ref s.heap.objs.size) { s with heap := s.heap.push { cls := .type "tuple", data := .seq (us ++ vs).toArray } }) (sz : us.length + vs.length ≤ sizeLine) : wpAny (model prog w) A (inplaceOp .Add (.ref t) (.ref b)) Q E s := by
  obtain ⟨⟨cl1, d1, dt1, sl1⟩, o1, c1, n1, e1⟩ := id p1
  obtain ⟨⟨cl2, d2, dt2, sl2⟩, o2, c2, n2, e2⟩ := id p2
  simp only at c1 c2 e1 e2
  subst c1 e1 c2 e2
  have ty1 : s.TypeIs (.ref t) "tuple" := ⟨_, o1, rfl⟩
  refine PySem.wpAny_inplaceOp_concat ty1 ⟨_, o2, rfl⟩ no_iadd_tup noFill_tuple_add seq_tuple_add ?_
  by_cases h1 : us = []
  · exact call_meets PySem.F.slot_tuple_add ty1 PySem.F.entry_tuple_add (PySem.F.args_tuple_add_2 _ _) (tuple_addW0 t b us.toArray vs.toArray n1 n2 d1 d2 sl1 sl2 (by simp [h1])) ⟨o1, o2, q0 h1⟩
  · by_cases h2 : vs = []
    · exact call_meets PySem.F.slot_tuple_add ty1 PySem.F.entry_tuple_add (PySem.F.args_tuple_add_2 _ _) (tuple_addW1 t b us.toArray vs.toArray n1 n2 d1 d2 sl1 sl2 (by simpa using h1) (by simp [h2])) ⟨o1, o2, q1 h1 h2⟩
    · refine call_meets PySem.F.slot_tuple_add ty1 PySem.F.entry_tuple_add (PySem.F.args_tuple_add_2 _ _) (tuple_addW2 t b us.toArray vs.toArray n1 n2 d1 d2 sl1 sl2 (by simpa using h1) (by simpa using h2) (by rw [List.size_toArray, List.size_toArray]; exact sz)) ⟨o1, o2, ?_⟩
      rw [show us.toArray ++ vs.toArray = (us ++ vs).toArray by simp]
      exact q2 h1 h2
end
theorem ip_catA {X : Cx} : PIp X .Add (rCatA X.K) := by
  intro pins s σ H x y v u Q I rx ry h
  obtain ⟨a, b, xs, ys, rfl, rfl, ha, hb, hz, q0, q1, q2⟩ := h
  cases rx
  cases ry
  obtain ⟨its, r1, p1, _⟩ := I.tuple ha
  obtain ⟨its2, r2, p2, _⟩ := I.tuple hb
  refine iadd_tup p1 p2 (fun z => ⟨.ref b, H, I, rfl, q0 (r1.nil_iff.mp z)⟩) (fun z1 z2 => ⟨.ref a, H, I, rfl, q1 (fun e => z1 (r1.nil_iff.mpr e)) (r2.nil_iff.mp z2)⟩) (fun z1 z2 => ?_) (by rw [← r1.length, ← r2.length]; exact hz)
  refine ⟨.ref s.heap.objs.size, _, I.laid (t' := s.toks) (o := .tup (xs ++ ys)) (fun b ob q => Heap.get?_push_of_some _ q) (Nat.le_refl _) ?_, rfl, q2 (fun e => z1 (r1.nil_iff.mpr e)) (fun e => z2 (r2.nil_iff.mpr e)) _ (I.hok.fresh (Nat.le_refl _))⟩
  exact ⟨by rw [List.length_append]; exact hz, _, r1.append r2, IsTup.new _ _⟩

/-! ### sorted(d), d a dict with any number of texts as keys -/
theorem sorted_dAny {X : Cx} (hcalm : X.calm = true) : CallR X (.builtin "sorted") (fun xs H Q => ∃ (a : Addr) (kvs : List (Key × V)) (ks : List Str), xs = [.ref a] ∧ Rd H a (.dK kvs) ∧ kvs.map (·.1) = ks.map Sum.inr ∧
    ∀ ys p, ys.Perm ks → sortedS ys = true → H p = none → Q (.ref p) (upd H p (.lst (ys.map V.str)))) := by
  intro pins s σ H xs us Q I r q
  obtain ⟨a, kvs, ks, ex, hd, hks, q⟩ := q
  subst ex
  obtain ⟨u, eu, rx⟩ := vals1 r
  subst eu
  cases rx
  obtain ⟨z, lo, vs, rel, dd⟩ := dk_rd I.hok hd
  obtain ⟨ep, dat⟩ := dd.dictAt
  have keys : vs.map (·.1) = ks.map Sum.inr := rel.keys.symm.trans hks
  have len : vs.length = ks.length := by
    have e := congrArg List.length keys
    rwa [List.length_map, List.length_map] at e
  have fits : vs.length ≤ sizeLine := by rw [← rel.length]; exact z
  refine Calls.call_function_entry kind_sorted plain_sorted entry_sorted (args_sorted1 _) ?_
  unfold Builtin.«sorted»
  refine wpAny_bind (m := checkCount "sorted" 1 1 _) (wpAny_pure ?_)
  refine wpAny_bind (PySem.W.kdu_collect (A := X.A.in1) (PySem.W.kdl_dict (knd := mixKind X.prog X.w) (kvs := vs) (ep := ep) lo) (I.ok.hd hcalm) dat fits fun g tk acc kp hacc => ?_)
  have alen : acc.toList.length = ks.length := by rw [Array.length_toList, hacc.1, len]
  have afit : acc.toList.length ≤ sizeLine := by omega
  have aS : StrsAre acc.toList ks := strs_at alen fun j v e => by
    obtain ⟨k, x, e1, e2⟩ := hacc.2 j v (by rw [← Array.getElem?_toList]; exact e)
    have e3 : (vs.map (·.1))[j]? = some k := by rw [List.getElem?_map, e1] <;> rfl
    rw [keys, List.getElem?_map] at e3
    cases e4 : ks[j]? with
    | none => rw [e4] at e3; cases e3
    | some y =>
      rw [e4] at e3
      obtain rfl : Sum.inr y = k := Option.some.inj e3
      obtain ⟨t, ev⟩ := Value.isStrOf_shape (x := y) (v := v) e2
      exact ⟨y, t, rfl, ev⟩
  have I1 : Inv X pins σ H { s with heap := g, toks := tk } := I.kept kp
  refine wpAny_bind (wpAny_newList ?_ afit)
  have at1 : (g.push (seqObj "list" acc.toList.toArray 0)).get? g.objs.size = some (seqObj "list" acc.toList.toArray 0) := Heap.get?_push_size _ rfl
  show wpAny _ _ _ _ _ { s with heap := g.push (seqObj "list" acc.toList.toArray 0), toks := tk }
  refine wpAny_bind (wpAny_holding (wpAny_call_entry slot_list_sort ⟨_, at1, rfl⟩ entry_list_sort
    (list_sort_treeKAny strKind_oneLt (s := { s with heap := g.push (seqObj "list" acc.toList.toArray 0), toks := tk }) at1 aS.keysOf (fun v₁ v₂ rest e => keyKind_strs (by rw [← e]; exact aS)) afit fun st' hp hs => ⟨_, rfl, ?_⟩)
    (args_list_sort _)))
  obtain ⟨ys, g1, g2, g3⟩ := sorted_out_str aS hp hs
  obtain ⟨e', he'⟩ := sortedHeap_at (vs := acc.toList) (out := (arrOf st').map (·.2)) at1
  have ylen : (ys.map V.str).length ≤ sizeLine := by rw [List.length_map, g2.length_eq]; omega
  refine wpAny_pure ⟨_, rfl, .ref g.objs.size, upd H g.objs.size (.lst (ys.map V.str)), I1.laid (t' := tk) (fun b u e => ?_) (Nat.le_refl _)
    (show ObjOk X.prog X.w _ _ _ (.lst (ys.map V.str)) from ⟨ylen, ((arrOf st').map (·.2)).toList, e', vals_of_strs g1, by rw [Array.toArray_toList]; exact he'⟩), rfl, q ys _ g2 g3 (I1.hok.fresh (Nat.le_refl _))⟩
  have hb : b < g.objs.size := Heap.lt_size e
  rw [sortedHeap_old (Nat.ne_of_lt hb) (by rw [size_push']; exact Nat.lt_succ_of_lt hb)]
  exact Heap.get?_push_of_some _ e

/-! ### sorted(l) -/
def rSortedSA (K : PySem.W.Frag) : List V → Hp → VK → Prop := fun vs H Q => ∃ (a : Addr) (xs : List Str), vs = [V.ref a] ∧ SqL K H a (xs.map V.str) ∧
  ∀ (ys : List Str) (p : Addr), ys.Perm xs → sortedS ys = true → H p = none → Q (.ref p) (upd H p (.lst (ys.map V.str)))
theorem cr_sortedSA {X : Cx} : CallR X (.builtin "sorted") (rSortedSA X.K) := by
  intro pins s σ H vs us Q I r h
  obtain ⟨a, xs, rfl, hs, q⟩ := h
  obtain ⟨its, rv, hl, hz⟩ := I.list hs
  rw [Vals.ref1 r]
  have hlen0 := rv.length
  rw [List.length_map] at hlen0
  rw [List.length_map] at hz
  refine PyProof.Rows.sorted_strsAny hl.isList rv.strs (by rw [← hlen0]; exact hz) fun out ys h1 h2 h3 => ?_
  obtain ⟨ep, he'⟩ := PyProof.Rows.sortedAll_at s.heap its out
  have hlen : (ys.map V.str).length ≤ sizeLine := by rw [List.length_map, h2.length_eq]; exact hz
  exact ⟨.ref _, upd H (s.heap.objs.size + 1) (.lst (ys.map V.str)), I.laid (t' := s.toks) (fun _ _ => PyProof.Rows.sortedAll_old) (Nat.le_succ _) ⟨hlen, out.toList, ep, vals_of_strs h1, he'⟩, rfl, q ys _ h2 h3 (I.hok.fresh (Nat.le_succ _))⟩
/-! ### the order of texts -/
def lts (a b : Str) : Bool := ltCps a.cps.toList b.cps.toList
theorem cps_asym : ∀ a b : List Nat, ltCps a b = true → ltCps b a = false
  | [], [], h => by cases h
  | [], _ :: _, _ => rfl
  | _ :: _, [], h => by cases h
  | a :: r, b :: t, h => by
    simp only [ltCps, Bool.or_eq_true, Bool.and_eq_true, decide_eq_true_eq, beq_iff_eq, Bool.or_eq_false_iff, Bool.and_eq_false_iff, decide_eq_false_iff_not, beq_eq_false_iff_ne] at h ⊢
    rcases h with h | ⟨h1, h2⟩
    · exact ⟨by omega, .inl (by omega)⟩
    · exact ⟨by omega, .inr (cps_asym r t h2)⟩
theorem cps_tri : ∀ a b : List Nat, ltCps a b = false → ltCps b a = false → a = b
  | [], [], _, _ => rfl
  | [], _ :: _, h, _ => by cases h
  | _ :: _, [], _, h => by cases h
  | a :: r, b :: t, h, k => by
    simp only [ltCps, Bool.or_eq_false_iff, Bool.and_eq_false_iff, decide_eq_false_iff_not, beq_eq_false_iff_ne] at h k
    have e : a = b := by omega
    subst e
    have h2 : ltCps r t = false := h.2.elim (fun z => absurd rfl z) id
    have k2 : ltCps t r = false := k.2.elim (fun z => absurd rfl z) id
    rw [cps_tri r t h2 k2]
/-- not above, twice -/
theorem cps_trans : ∀ a b c : List Nat, ltCps b a = false → ltCps c b = false → ltCps c a = false
  | [], _, c, _, _ => by cases c <;> rfl
  | _ :: _, [], _, h, _ => by cases h
  | _ :: _, _ :: _, [], _, h => by cases h
  | a :: r, b :: t, c :: u, h, k => by
    simp only [ltCps, Bool.or_eq_false_iff, Bool.and_eq_false_iff, decide_eq_false_iff_not, beq_eq_false_iff_ne] at h k ⊢
    refine ⟨by omega, ?_⟩
    by_cases e : c = a
    · subst e
      have e2 : b = c := by omega
      subst e2
      exact .inr (cps_trans r t u (h.2.elim (fun z => absurd rfl z) id) (k.2.elim (fun z => absurd rfl z) id))
    · exact .inl e
theorem lts_asym {a b : Str} (h : lts a b = true) : lts b a = false := cps_asym _ _ h
theorem str_cps {a b : Str} (h : a.cps.toList = b.cps.toList) : a = b := by
  cases a with
  | mk x =>
    cases b with
    | mk y =>
      have e : x = y := Array.ext' h
      rw [e]
theorem lts_tri {a b : Str} (h : lts a b = false) (k : lts b a = false) : a = b := str_cps (cps_tri _ _ h k)
theorem lts_trans {a b c : Str} (h : lts b a = false) (k : lts c b = false) : lts c a = false := cps_trans _ _ _ h k
/-- rising, no two of them the same -/
def Up (l : List Str) : Prop := l.Pairwise fun a b => lts a b = true
/-- rising, some of them the same -/
def Rise (l : List Str) : Prop := l.Pairwise fun a b => lts b a = false
theorem rises : ∀ (l : List Str) (p : Str), risingS p l = true → Rise (p :: l)
  | [], p, _ => List.pairwise_singleton _ _
  | x :: r, p, h => by
    have h : (!ltCps x.cps.toList p.cps.toList && risingS x r) = true := h
    rw [Bool.and_eq_true, Bool.not_eq_true'] at h
    have ih := rises r x h.2
    refine List.pairwise_cons.mpr ⟨fun y hy => ?_, ih⟩
    rcases List.mem_cons.mp hy with e | e
    · rw [e]; exact h.1
    · exact lts_trans (a := p) (b := x) h.1 ((List.pairwise_cons.mp ih).1 y e)
theorem rise_of : ∀ {l : List Str}, sortedS l = true → Rise l
  | [], _ => List.Pairwise.nil
  | x :: r, h => rises r x h
theorem up_of {l : List Str} (h : Rise l) (n : l.Nodup) : Up l := by
  have z : l.Pairwise fun a b => lts b a = false ∧ a ≠ b := List.Pairwise.and h n
  exact z.imp fun {a b} ⟨h1, h2⟩ => by
    cases e : lts a b with
    | true => rfl
    | false => exact (h2 (lts_tri e h1)).elim
/-- two rising rows with the same members are the same -/
theorem up_eq : ∀ {l m : List Str}, Up l → Up m → (∀ s, s ∈ l ↔ s ∈ m) → l = m
  | [], [], _, _, _ => rfl
  | [], y :: m, _, _, h => absurd ((h y).mpr (List.mem_cons_self ..)) List.not_mem_nil
  | x :: l, [], _, _, h => absurd ((h x).mp (List.mem_cons_self ..)) List.not_mem_nil
  | x :: l, y :: m, hl, hm, h => by
    have hl2 := List.pairwise_cons.mp hl
    have hm2 := List.pairwise_cons.mp hm
    have e : x = y := by
      rcases List.mem_cons.mp ((h x).mp (List.mem_cons_self ..)) with e | e
      · exact e
      · rcases List.mem_cons.mp ((h y).mpr (List.mem_cons_self ..)) with e2 | e2
        · exact e2.symm
        · have z1 := hm2.1 x e
          have z2 := hl2.1 y e2
          rw [lts_asym z1] at z2
          cases z2
    subst e
    have nx1 : x ∉ l := fun hx => by
      have z := hl2.1 x hx
      rw [lts_asym z] at z
      cases z
    have nx2 : x ∉ m := fun hx => by
      have z := hm2.1 x hx
      rw [lts_asym z] at z
      cases z
    rw [up_eq hl2.2 hm2.2 fun s => ?_]
    constructor
    · intro hs
      rcases List.mem_cons.mp ((h s).mp (List.mem_cons_of_mem _ hs)) with e | e
      · rw [e] at hs; exact (nx1 hs).elim
      · exact e
    · intro hs
      rcases List.mem_cons.mp ((h s).mpr (List.mem_cons_of_mem _ hs)) with e | e
      · rw [e] at hs; exact (nx2 hs).elim
      · exact e
/-- a row without repetitions in another one is not longer -/
theorem nodup_len : ∀ {l m : List Str}, l.Nodup → (∀ s ∈ l, s ∈ m) → l.length ≤ m.length
  | [], m, _, _ => Nat.zero_le _
  | x :: l, m, n, h => by
    have n2 := List.nodup_cons.mp n
    have hx := h x (List.mem_cons_self ..)
    have z := nodup_len (m := m.erase x) n2.2 fun s hs => by
      have ne : s ≠ x := fun e => n2.1 (e ▸ hs)
      exact (List.mem_erase_of_ne ne).mpr (h s (List.mem_cons_of_mem _ hs))
    rw [List.length_erase_of_mem hx] at z
    have := List.length_pos_of_mem hx
    rw [List.length_cons]
    omega
end Toy

set_option Elab.async false
set_option linter.all false
set_option maxRecDepth 100000
set_option maxHeartbeats 4000000
/-! Part Q: the names that a term binds itself. -/
namespace Toy
open PySem L2
open PyProof.Rows (envOfC)
/-- the names, a row for each place that binds -/
def ownW (w : Str) (r : List Dd) : List (List Str) :=
  if w = "lam" then [[strOf (arg 0 r)]] else if w = "seq" then [[strOf (arg 0 r)]]
  else if w = "let" then [(tl (arg 0 r)).map fun q => strOf (nth 0 q)]
  else if w = "case" then (tl (arg 1 r)).map (fun q => strsOf (nth 1 q)) ++ dfltNs (arg 2 r)
  else if w = "pick" then (tl (arg 1 r)).map (fun _ => []) ++ dfltNs (arg 2 r) else []
def ownD : Dd → List (List Str)
  | .tup (.str w :: r) => ownW w r
  | _ => []
theorem ow_lam (r : List Dd) : ownW "lam" r = [[strOf (arg 0 r)]] := by
  unfold ownW
  rw [if_pos rfl]
theorem ow_seq (r : List Dd) : ownW "seq" r = [[strOf (arg 0 r)]] := by
  unfold ownW
  rw [if_neg (by decide +kernel), if_pos rfl]
theorem ow_let (r : List Dd) : ownW "let" r = [(tl (arg 0 r)).map fun q => strOf (nth 0 q)] := by
  unfold ownW
  rw [if_neg (by decide +kernel), if_neg (by decide +kernel), if_pos rfl]
theorem ow_case (r : List Dd) : ownW "case" r = (tl (arg 1 r)).map (fun q => strsOf (nth 1 q)) ++ dfltNs (arg 2 r) := by
  unfold ownW
  rw [if_neg (by decide +kernel), if_neg (by decide +kernel), if_neg (by decide +kernel), if_pos rfl]
theorem ow_pick (r : List Dd) : ownW "pick" r = (tl (arg 1 r)).map (fun _ => []) ++ dfltNs (arg 2 r) := by
  unfold ownW
  rw [if_neg (by decide +kernel), if_neg (by decide +kernel), if_neg (by decide +kernel), if_neg (by decide +kernel), if_pos rfl]
theorem ow_other {w : Str} (r : List Dd) (h : w ∉ [("lam" : Str), "seq", "let", "case", "pick"]) : ownW w r = [] := by
  simp only [List.mem_cons, List.not_mem_nil, or_false, not_or] at h
  unfold ownW
  rw [if_neg h.1, if_neg h.2.1, if_neg h.2.2.1, if_neg h.2.2.2.1, if_neg h.2.2.2.2]
/-- all of them, in a row -/
def ownN (k : Dd) : List Str := (ownD k).flatten
theorem ats_strs_eq {B : Addr → Prop} {H : Hp} : ∀ {zs : List Str} {xs : List V}, Dd.Ats B H (zs.map Dd.str) xs → xs = zs.map V.str ∧ ∀ z ∈ zs, z.length ≤ 1000
  | [], _, h => ⟨h, fun z hz => by cases hz⟩
  | z :: zs, _, ⟨x, ys, e, ⟨h1, h2⟩, hs⟩ => by
    obtain ⟨g1, g2⟩ := ats_strs_eq hs
    subst e h1 g1
    exact ⟨rfl, fun y hy => (List.mem_cons.mp hy).elim (fun e => by rw [e]; exact h2) (g2 y)⟩
theorem nameT_at {B : Addr → Prop} {H : Hp} {zs : List Str} {v : V} (h : (nameT zs).At B H v) : ∃ a, v = .ref a ∧ H a = some (.tup (zs.map V.str)) ∧ ∀ z ∈ zs, z.length ≤ 1000 := by
  obtain ⟨a, xs, rfl, ha, hs⟩ := h
  obtain ⟨rfl, hz⟩ := ats_strs_eq hs
  exact ⟨a, rfl, ha, hz⟩
theorem at_nameT {B : Addr → Prop} {H : Hp} {zs : List Str} {a : Addr} (h : H a = some (.tup (zs.map V.str))) (hz : ∀ z ∈ zs, z.length ≤ 1000) : (nameT zs).At B H (.ref a) := at_tup h (ats_strs hz)
theorem nameT_to {B C : Addr → Prop} {H : Hp} {zs : List Str} {v : V} (h : (nameT zs).At B H v) : (nameT zs).At C H v := by
  obtain ⟨a, rfl, ha, hz⟩ := nameT_at h
  exact at_nameT ha hz
theorem in_ifs (z : Str) (zs : List Str) : (if false = true then !inV (.str z) (zs.map V.str) else inV (.str z) (zs.map V.str)) = decide (z ∈ zs) := by rw [if_neg (by decide), inV_strs]
theorem wtt (a : Str) : decide (V.str a = V.str a) = true := decide_eq_true rfl
theorem wne {a b : Str} (h : a ≠ b) : decide (V.str a = V.str b) = false := decide_eq_false fun e => h (V.str.inj e)
theorem str_le {d : Dd} (h : isName d = true) : (strOf d).length ≤ 1000 := by
  rw [name_str h] at h
  have h4 : ((decide (1 ≤ (strOf d).length) && decide ((strOf d).length ≤ 80)) && _) = true := h
  have := of_decide_eq_true (fand (fand h4).1).2
  omega
section
variable {P : Program} {w : World} {K : PySem.W.Frag} {mg : Str → Option Value} {base : Heap}
abbrev sNDflt : Stmt := topS 5
theorem scNDflt : FnScope ["term"] ["term"] (defScope sNDflt) := ⟨rfl, rfl, rfl, by decide +kernel, rfl, by decide +kernel, by decide +kernel⟩
def spNDflt : Sp := fun vs H Q _ => ∃ (B : Addr → Prop) (v : V) (w : Str) (r : List Dd), vs = [v] ∧ (Dd.tup (.str w :: r)).At B H v ∧ r.length = 3 ∧ isDflt (arg 2 r) = true ∧ ∀ (L : Addr) (xs : List V) (H' : Hp), Same H H' → H L = none → H' L = some (.lst xs) → Dd.Ats F0 H' ((dfltNs (arg 2 r)).map nameT) xs → Q (.ref L) H'
theorem c_ndflt {f : Addr} {fd : FuncData} (F : Fun K "_default_names" "_default_names" sNDflt f fd) (b : Binds K fd ["term"] []) (hm : mg "_default_names" = some (.ref f)) : C8.Cal P w K mg base 1 "_default_names" spNDflt [] := by
  refine cal_of F hm b scNDflt (fun vs H Q E h => ?_) (fun cdv A outer s H vs Q E hr h => ?_)
  · obtain ⟨B, v, w', r, rfl, _⟩ := h
    rfl
  obtain ⟨B, v, w', r, rfl, hat, hc, hd, q⟩ := h
  refine ⟨_, (pss_one (ps_ret (pe_ifExp (pt_cmpR op_isN (pe_ix ix_tup (pv 0) pe_int (fun _ _ => rfl)) pe_non (nomark _)) (pe_lst pa_nil) (pe_lst (pa_cons (pe_tup (pa_cons (pe_ix ix_tup (pe_ix ix_tup (pv 0) pe_int (fun _ _ => rfl)) pe_int (fun _ _ => rfl)) pa_nil)) pa_nil))))), ?_⟩
  obtain ⟨a, ys, rfl, ha, hs, hyl, hw⟩ := head_at hat
  obtain ⟨x, hx, hxa⟩ := arg_at (v0 := .str w') hs (i := 2) (by omega)
  refine ⟨_, rfl, a, _, 3, _, rfl, rfl, SqT.of ha, hx, rfl, _, rfl, ?_⟩
  match arg 2 r, hd, hxa, q with
  | .non, _, hxa, q =>
    cases (show x = .non from hxa)
    rw [decide_eq_true rfl]
    refine iteT ?_
    exact ⟨by show 0 ≤ sizeLine; decide, fun t ht => q t [] _ (same_new ht _) ht upd_same ats_nil⟩
  | .tup l, hd, hxa, q =>
    obtain ⟨hl2, hn⟩ := fand hd
    have hl2 : l.length = 2 := of_decide_eq_true hl2
    obtain ⟨b2, xs2, rfl, hb, hbs⟩ := hxa
    rw [decide_eq_false (by intro e; cases e)]
    refine iteF ?_
    obtain ⟨y, hy, hya⟩ := nth_at hbs (i := 0) (by omega)
    have hn0 : isName (nth 0 (.tup l)) = true := hn
    rw [name_str hn0] at hya
    obtain ⟨rfl, hyl2⟩ := (show y = .str (strOf (nth 0 (.tup l))) ∧ _ from hya)
    refine ⟨_, rfl, a, _, 3, _, rfl, rfl, SqT.of ha, hx, b2, _, 0, _, rfl, rfl, SqT.of hb, hy, by show 1 ≤ sizeLine; decide, fun t ht => ?_⟩
    have s1 := same_new ht (.tup [.str (strOf (nth 0 (.tup l)))])
    refine ⟨by show 1 ≤ sizeLine; decide, fun L hL => ?_⟩
    have s2 := same_new hL (.lst [.ref t])
    exact q L [.ref t] _ (sameT s1 s2) (free_of s1 hL) upd_same (ats_one (at_nameT (zs := [strOf (nth 0 (.tup l))]) (s2 _ _ upd_same) fun z hz => by rw [List.mem_singleton.mp hz]; exact hyl2))
abbrev sOwn : Stmt := topS 4
theorem scOwn : FnScope ["term", "name", "_", "names"] ["term"] (defScope sOwn) := ⟨rfl, rfl, rfl, by decide +kernel, rfl, by decide +kernel, by decide +kernel⟩
def spOwn : Sp := fun vs H Q _ => ∃ (B : Addr → Prop) (v : V) (k : Dd), vs = [v] ∧ k.At B H v ∧ formB k = true ∧ k.sz ≤ 1000000 ∧ ∀ (L : Addr) (xs : List V) (H' : Hp), Same H H' → H L = none → H' L = some (.lst xs) → Dd.Ats F0 H' ((ownD k).map nameT) xs → Q (.ref L) H'
theorem c_own {f : Addr} {fd : FuncData} (T : TxtI mg) (c_default_names : C8.Cal P w K mg base 1 "_default_names" spNDflt []) (F : Fun K "_own_names" "_own_names" sOwn f fd) (b : Binds K fd ["term"] []) (hm : mg "_own_names" = some (.ref f)) : C8.Cal P w K mg base 2 "_own_names" spOwn [] := by
  refine cal_of F hm b scOwn (fun vs H Q E h => ?_) (fun cdv A outer s H vs Q E hr h => ?_)
  · obtain ⟨B, v, k, rfl, _⟩ := h
    rfl
  obtain ⟨B0, v, k, rfl, hat, hf, hsz, q⟩ := h
  refine ⟨_, (pss_cons (ps_if (pt_cmpR op_in_seq (pe_ix ix_tup (pv 0) pe_int (fun _ _ => rfl)) (pe_tup (pa_cons pe_str (pa_cons pe_str pa_nil))) rfl)
      (pss_one (ps_ret (pe_lst (pa_cons (pe_tup (pa_cons (pe_ix ix_tup (pv 0) pe_int (fun _ _ => rfl)) pa_nil)) pa_nil))))
      pss_nil)
    (pss_cons (ps_if (pt_cmpR op_eq (pe_ix ix_tup (pv 0) pe_int (fun _ _ => rfl)) pe_str (nomark _))
      (pss_one (ps_ret (pe_lst (pa_cons (pe_callTy call_tuple_of rfl T.ztuple boot_tuple (pa_cons (pe_lc (own := [("name", 1), ("_", 2)]) (g := gTup K 2 (gCons (gName 1) (gCons (gName 2) (gNil)))) (tt := tYes) rfl scOwn.nd (pi_tup (pe_ix ix_tup (pv 0) pe_int (fun _ _ => rfl))) (blkOk_by (own := [("name", 1), ("_", 2)]) (N := ["term", "name", "_", "names"]) (sc := defScope sOwn) (by decide +kernel)) (fun _ _ _ _ _ => (pg_tup rfl (pgs_cons (pg_name (i := 1) scOwn.nd rfl (Or.inl rfl)) (pgs_cons (pg_name (i := 2) scOwn.nd rfl (Or.inl rfl)) pgs_nil)))) (fun _ _ _ _ _ => pts_nil) (fun _ _ _ _ _ => (pv 1))) pa_nil)) pa_nil))))
      pss_nil)
    (pss_cons (ps_if (pt_cmpR op_eq (pe_ix ix_tup (pv 0) pe_int (fun _ _ => rfl)) pe_str (nomark _))
      (pss_one (ps_ret (pe_lst (StX.pa_star (pe_lc (own := [("_", 2), ("names", 3)]) (g := gTup K 3 (gCons (gName 2) (gCons (gName 3) (gCons (gName 2) (gNil))))) (tt := tYes) rfl scOwn.nd (pi_tup (pe_ix ix_tup (pv 0) pe_int (fun _ _ => rfl))) (blkOk_by (own := [("_", 2), ("names", 3)]) (N := ["term", "name", "_", "names"]) (sc := defScope sOwn) (by decide +kernel)) (fun _ _ _ _ _ => (pg_tup rfl (pgs_cons (pg_name (i := 2) scOwn.nd rfl (Or.inl rfl)) (pgs_cons (pg_name (i := 3) scOwn.nd rfl (Or.inl rfl)) (pgs_cons (pg_name (i := 2) scOwn.nd rfl (Or.inl rfl)) pgs_nil))))) (fun _ _ _ _ _ => pts_nil) (fun _ _ _ _ _ => (pv 3))) (StX.pa_star (C8.pe_c c_default_names hr (by decide) rfl (pa_cons (pv 0) pa_nil)) pa_nil)))))
      pss_nil)
    (pss_cons (ps_if (pt_cmpR op_eq (pe_ix ix_tup (pv 0) pe_int (fun _ _ => rfl)) pe_str (nomark _))
      (pss_one (ps_ret (pe_lst (StX.pa_star (pe_lc (own := [("_", 2)]) (g := gName 2) (tt := tYes) rfl scOwn.nd (pi_tup (pe_ix ix_tup (pv 0) pe_int (fun _ _ => rfl))) (blkOk_by (own := [("_", 2)]) (N := ["term", "name", "_", "names"]) (sc := defScope sOwn) (by decide +kernel)) (fun _ _ _ _ _ => (pg_name (i := 2) scOwn.nd rfl (Or.inl rfl))) (fun _ _ _ _ _ => pts_nil) (fun _ _ _ _ _ => (pe_tup pa_nil))) (StX.pa_star (C8.pe_c c_default_names hr (by decide) rfl (pa_cons (pv 0) pa_nil)) pa_nil)))))
      pss_nil)
    (pss_one (ps_ret (pe_lst pa_nil))))))), ?_⟩
  obtain ⟨z, r, rfl, hfz⟩ := form_tup hf
  obtain ⟨a, ys, rfl, ha, hys, hyl, hzl⟩ := head_at hat
  refine ⟨_, rfl, a, _, 0, _, rfl, rfl, SqT.of ha, at0 _ _, by show 2 ≤ sizeLine; decide, fun t1 ht1 => ?_⟩
  have s1 := same_new ht1 (.tup [.str "lam", .str "seq"])
  have e1 : upd H t1 (.tup [.str "lam", .str "seq"]) t1 = some (.tup ([("lam" : Str), "seq"].map V.str)) := upd_same
  refine ⟨t1, _, rfl, .inr (SqT.of e1), rfl, flat_strs _, _, rfl, ?_⟩
  rw [in_ifs]
  have ha1 := s1 _ _ ha
  have hys1 := hys.keep (fr_same s1)
  generalize upd H t1 (.tup [.str "lam", .str "seq"]) = H1 at s1 e1 ha1 hys1 ⊢
  by_cases c1 : z ∈ [("lam" : Str), "seq"]
  · rw [decide_eq_true c1]
    refine iteT ?_
    have hlen : 0 < r.length ∧ isName (arg 0 r) = true ∧ ownW z r = [[strOf (arg 0 r)]] := by
      rcases List.mem_cons.mp c1 with rfl | c
      · rw [fw_lam] at hfz
        exact ⟨by rw [of_decide_eq_true (fand hfz).1]; decide, (fand hfz).2, ow_lam r⟩
      · have c := List.mem_singleton.mp c
        subst c
        rw [fw_seq] at hfz
        exact ⟨by rw [of_decide_eq_true (fand hfz).1]; decide, (fand hfz).2, ow_seq r⟩
    obtain ⟨hl0, hn, eO⟩ := hlen
    obtain ⟨x, hx, hxa⟩ := arg_at (v0 := .str z) hys1 (i := 0) hl0
    rw [name_str hn] at hxa
    obtain ⟨rfl, hx2⟩ := (show x = .str (strOf (arg 0 r)) ∧ _ from hxa)
    refine ⟨_, rfl, a, _, 1, _, rfl, rfl, SqT.of ha1, hx, by show 1 ≤ sizeLine; decide, fun t ht => ?_⟩
    have s2 := same_new ht (.tup [.str (strOf (arg 0 r))])
    refine ⟨by show 1 ≤ sizeLine; decide, fun L hL => ?_⟩
    have s3 := same_new hL (.lst [.ref t])
    refine q L [.ref t] _ (sameT s1 (sameT s2 s3)) (free_of (sameT s1 s2) hL) upd_same ?_
    show Dd.Ats F0 _ ((ownW z r).map nameT) _
    rw [eO]
    exact ats_one (at_nameT (zs := [strOf (arg 0 r)]) (s3 _ _ upd_same) fun y hy => by rw [List.mem_singleton.mp hy]; exact hx2)
  rw [decide_eq_false c1]
  refine iteF ?_
  refine ⟨_, rfl, a, _, 0, _, rfl, rfl, SqT.of ha1, at0 _ _, rfl, _, rfl, ?_⟩
  by_cases c2 : z = "let"
  · subst c2
    show if decide (V.str "let" = V.str "let") = true then _ else _
    rw [wtt]
    refine iteT ?_
    rw [fw_let] at hfz
    obtain ⟨h2, hn⟩ := fand hfz
    obtain ⟨h2, hrw⟩ := fand h2
    have hr2 : r.length = 2 := of_decide_eq_true h2
    obtain ⟨l, el, hrows⟩ := rows_are (show areRows 2 (arg 0 r) = true from hrw)
    have hnm : ∀ q ∈ l, isName (nth 0 q) = true := by
      have h3 := (fand (fand hn).2).1
      rw [el] at h3
      have h3 : (l.map (nth 0)).all isName = true := h3
      rw [List.all_map] at h3
      exact List.all_eq_true.mp h3
    obtain ⟨x, hx, hxa⟩ := arg_at (v0 := .str "let") hys1 (i := 0) (by omega)
    have hz := arg_sz (w := "let") (r := r) 0
    rw [el] at hxa hz
    obtain ⟨p, xs2, rfl, e2, hps⟩ := hxa
    have hxl := ats_len hps
    have hlz := szs_len l
    have hz : 1 + Dd.szs l ≤ _ := hz
    refine ⟨_, rfl, a, _, 1, _, rfl, rfl, SqT.of ha1, hx, p, rfl, ⟨_, SqT.of e2⟩, fun D hD => ?_⟩
    refine lc_tup (a := p) (xs := xs2) (fun i G => Same H1 G ∧ G D = some (.lst ((((l.take i).map fun q => strOf (nth 0 q))).map V.str))) ⟨same_new hD _, upd_same⟩ (fun i G hi ⟨h, _⟩ => SqT.of (h _ _ e2)) ?_ ?_
    · rintro i x' G hx ⟨h2, h1⟩
      obtain ⟨kk, hk, hkx⟩ := ats_get hps hx
      have hil : i < l.length := (List.getElem?_eq_some_iff.mp hk).1
      obtain ⟨m, rfl, hm2⟩ := hrows kk (List.mem_of_getElem? hk)
      obtain ⟨t, x1, y1, rfl, ht, hx1, hy1⟩ := pair_at hkx hm2
      have hs1 := name_str (hnm _ (List.mem_of_getElem? hk))
      rw [hs1] at hx1
      obtain ⟨hx1, _⟩ := (show x1 = .str (strOf (nth 0 (.tup m))) ∧ _ from hx1)
      refine ⟨t, _, rfl, SqT.of (h2 _ _ ht), rfl, _, _, rfl, _, _, rfl, rfl, rfl, ?_⟩
      refine tYes_if ?_
      refine ⟨_, rfl, _, h1, ?_, same_upd hD h2 _, ?_⟩
      · rw [List.length_map, List.length_map, List.length_take]; have := big; have := Nat.min_le_right i l.length; omega
      · rw [upd_same, List.take_add_one, hk, List.map_append, List.map_append, hx1]
        rfl
    rintro G ⟨h2, h1⟩
    rw [hxl, List.take_length] at h1
    refine ⟨D, _, rfl, .inl ⟨SqL.of h1, fun t ht => ?_⟩⟩
    have st := same_new ht (.tup ((l.map fun q => strOf (nth 0 q)).map V.str))
    have et : upd G t (.tup ((l.map fun q => strOf (nth 0 q)).map V.str)) t = some (.tup ((l.map fun q => strOf (nth 0 q)).map V.str)) := upd_same
    generalize upd G t (.tup ((l.map fun q => strOf (nth 0 q)).map V.str)) = G2 at st et ⊢
    refine ⟨by show 1 ≤ sizeLine; decide, fun L hL => ?_⟩
    have s3 := same_new hL (.lst [.ref t])
    have sA := sameT s1 (sameT h2 st)
    refine q L [.ref t] _ (sameT sA s3) (free_of sA hL) upd_same ?_
    show Dd.Ats F0 _ ((ownW "let" r).map nameT) _
    rw [ow_let, el]
    exact ats_one (at_nameT (s3 _ _ et) fun y hy => by
      obtain ⟨q', hq', rfl⟩ := List.mem_map.mp hy
      exact str_le (hnm q' hq'))
  show if decide (V.str z = V.str "let") = true then _ else _
  rw [wne c2]
  refine iteF ?_
  refine ⟨_, rfl, a, _, 0, _, rfl, rfl, SqT.of ha1, at0 _ _, rfl, _, rfl, ?_⟩
  by_cases c3 : z = "case"
  · subst c3
    show if decide (V.str "case" = V.str "case") = true then _ else _
    rw [wtt]
    refine iteT ?_
    rw [fw_case] at hfz
    obtain ⟨h1, h4⟩ := fand hfz
    obtain ⟨h1, h3⟩ := fand h1
    obtain ⟨h1, h2⟩ := fand h1
    have hr3 : r.length = 3 := of_decide_eq_true h1
    obtain ⟨l, el, hrows⟩ := rows_are (show areRows 3 (arg 1 r) = true from h2)
    have hnn : ∀ q ∈ l, areNames (nth 1 q) = true := fun q hq => (fand (List.all_eq_true.mp h4 q (by rw [el]; exact hq))).2
    obtain ⟨x, hx, hxa⟩ := arg_at (v0 := .str "case") hys1 (i := 1) (by omega)
    have hz := arg_sz (w := "case") (r := r) 1
    rw [el] at hxa hz
    obtain ⟨p, xs2, rfl, e2, hps⟩ := hxa
    have hxl := ats_len hps
    have hlz := szs_len l
    have hz : 1 + Dd.szs l ≤ _ := hz
    refine ⟨_, rfl, a, _, 2, _, rfl, rfl, SqT.of ha1, hx, p, rfl, ⟨_, SqT.of e2⟩, fun D hD => ?_⟩
    refine lc_tup (a := p) (xs := xs2) (fun i G => Same H1 G ∧ ∃ zs, G D = some (.lst zs) ∧ Dd.Ats F0 G ((l.take i).map fun q => nameT (strsOf (nth 1 q))) zs) ⟨same_new hD _, [], upd_same, ats_nil⟩ (fun i G hi ⟨h, _⟩ => SqT.of (h _ _ e2)) ?_ ?_
    · rintro i x' G hx ⟨h2, zs, h1, h3⟩
      obtain ⟨kk, hk, hkx⟩ := ats_get hps hx
      have hil : i < l.length := (List.getElem?_eq_some_iff.mp hk).1
      obtain ⟨m, rfl, hm2⟩ := hrows kk (List.mem_of_getElem? hk)
      obtain ⟨t, x1, y1, z1, rfl, ht, hx1, hy1, hz1⟩ := three_at hkx hm2
      have hzl := ats_len h3
      rw [List.length_map, List.length_take] at hzl
      rw [names_back (hnn _ (List.mem_of_getElem? hk))] at hy1
      refine ⟨t, _, rfl, SqT.of (h2 _ _ ht), rfl, _, _, rfl, _, _, rfl, _, _, rfl, rfl, rfl, ?_⟩
      refine tYes_if ?_
      refine ⟨_, rfl, zs, h1, ?_, same_upd hD h2 _, zs ++ [y1], upd_same, ?_⟩
      · have := big; have := Nat.min_le_right i l.length; omega
      · rw [List.take_add_one, hk, List.map_append]
        have f8 : Fr F0 G (upd G D (.lst (zs ++ [y1]))) := fr_list h1 fun z => z
        exact ats_app (h3.keep f8) (ats_one (((nameT_to (C := F0) hy1).keep (fr_same h2)).keep f8))
    rintro G ⟨h2, zs, h1, h3⟩
    rw [hxl, List.take_length] at h3
    have hzl2 := ats_len h3
    rw [List.length_map] at hzl2
    refine ⟨D, zs, rfl, .inr (SqL.of h1), ?_⟩
    refine ⟨_, rfl, B0, .ref a, _, r, rfl, hat.keep (fr_same (sameT s1 h2)), hr3, ‹isDflt (arg 2 r) = true›, fun L2 xs3 G2 s2 hL2 hG2 hats3 => ?_⟩
    have hx3 := ats_len hats3
    have hd3 : xs3.length ≤ 1 := by
      rw [hx3, List.length_map]
      unfold dfltNs
      split <;> simp
    refine ⟨L2, xs3, rfl, .inr (SqL.of hG2), ?_, fun L hL => ?_⟩
    · have := big
      simp only [List.append_nil, List.length_append]
      omega
    rw [show xs3 ++ [] = xs3 from List.append_nil _]
    have s3 := same_new hL (.lst (zs ++ xs3))
    have sA := sameT s1 (sameT h2 s2)
    refine q L _ _ (sameT sA s3) (free_of sA hL) upd_same ?_
    show Dd.Ats F0 _ ((ownW "case" r).map nameT) _
    rw [ow_case, el, List.map_append, List.map_map]
    exact ats_app (h3.keep (fr_same (sameT s2 s3))) (hats3.keep (fr_same s3))
  show if decide (V.str z = V.str "case") = true then _ else _
  rw [wne c3]
  refine iteF ?_
  refine ⟨_, rfl, a, _, 0, _, rfl, rfl, SqT.of ha1, at0 _ _, rfl, _, rfl, ?_⟩
  by_cases c4 : z = "pick"
  · subst c4
    show if decide (V.str "pick" = V.str "pick") = true then _ else _
    rw [wtt]
    refine iteT ?_
    rw [fw_pick] at hfz
    obtain ⟨h1, h4⟩ := fand hfz
    obtain ⟨h1, h3⟩ := fand h1
    obtain ⟨h1, h2⟩ := fand h1
    have hr3 : r.length = 3 := of_decide_eq_true h1
    obtain ⟨l, el, hrows⟩ := rows_are (show areRows 2 (arg 1 r) = true from h2)
    obtain ⟨x, hx, hxa⟩ := arg_at (v0 := .str "pick") hys1 (i := 1) (by omega)
    have hz := arg_sz (w := "pick") (r := r) 1
    rw [el] at hxa hz
    obtain ⟨p, xs2, rfl, e2, hps⟩ := hxa
    have hxl := ats_len hps
    have hlz := szs_len l
    have hz : 1 + Dd.szs l ≤ _ := hz
    refine ⟨_, rfl, a, _, 2, _, rfl, rfl, SqT.of ha1, hx, p, rfl, ⟨_, SqT.of e2⟩, fun D hD => ?_⟩
    refine lc_tup (a := p) (xs := xs2) (fun i G => Same H1 G ∧ ∃ zs, G D = some (.lst zs) ∧ Dd.Ats F0 G ((l.take i).map fun _ => nameT []) zs) ⟨same_new hD _, [], upd_same, ats_nil⟩ (fun i G hi ⟨h, _⟩ => SqT.of (h _ _ e2)) ?_ ?_
    · rintro i x' G hx ⟨h2, zs, h1, h3⟩
      obtain ⟨kk, hk, hkx⟩ := ats_get hps hx
      have hil : i < l.length := (List.getElem?_eq_some_iff.mp hk).1
      have hzl := ats_len h3
      rw [List.length_map, List.length_take] at hzl
      refine ⟨rfl, ?_⟩
      refine tYes_if ?_
      refine ⟨by show 0 ≤ sizeLine; decide, fun u hu => ?_⟩
      have su := same_new hu (.tup [])
      have f8 : Fr F0 (upd G u (.tup [])) (upd (upd G u (.tup [])) D (.lst (zs ++ [.ref u]))) := fr_list (su _ _ h1) fun z => z
      refine ⟨zs, su _ _ h1, ?_, same_upd hD (sameT h2 su) _, zs ++ [.ref u], upd_same, ?_⟩
      · have := big; have := Nat.min_le_right i l.length; omega
      · rw [List.take_add_one, hk, List.map_append]
        exact ats_app ((h3.keep (fr_same su)).keep f8) (ats_one ((at_nameT (zs := []) upd_same (fun z hz => by cases hz) : (nameT []).At F0 _ (.ref u)).keep f8))
    rintro G ⟨h2, zs, h1, h3⟩
    rw [hxl, List.take_length] at h3
    have hzl2 := ats_len h3
    rw [List.length_map] at hzl2
    refine ⟨D, zs, rfl, .inr (SqL.of h1), ?_⟩
    refine ⟨_, rfl, B0, .ref a, _, r, rfl, hat.keep (fr_same (sameT s1 h2)), hr3, ‹isDflt (arg 2 r) = true›, fun L2 xs3 G2 s2 hL2 hG2 hats3 => ?_⟩
    have hx3 := ats_len hats3
    have hd3 : xs3.length ≤ 1 := by
      rw [hx3, List.length_map]
      unfold dfltNs
      split <;> simp
    refine ⟨L2, xs3, rfl, .inr (SqL.of hG2), ?_, fun L hL => ?_⟩
    · have := big
      simp only [List.append_nil, List.length_append]
      omega
    rw [show xs3 ++ [] = xs3 from List.append_nil _]
    have s3 := same_new hL (.lst (zs ++ xs3))
    have sA := sameT s1 (sameT h2 s2)
    refine q L _ _ (sameT sA s3) (free_of sA hL) upd_same ?_
    show Dd.Ats F0 _ ((ownW "pick" r).map nameT) _
    rw [ow_pick, el, List.map_append, List.map_map]
    exact ats_app (h3.keep (fr_same (sameT s2 s3))) (hats3.keep (fr_same s3))
  show if decide (V.str z = V.str "pick") = true then _ else _
  rw [wne c4]
  refine iteF ?_
  refine ⟨by show 0 ≤ sizeLine; decide, fun L hL => ?_⟩
  refine q L [] _ (sameT s1 (same_new hL _)) (free_of s1 hL) upd_same ?_
  show Dd.Ats F0 _ ((ownW z r).map nameT) _
  rw [ow_other r (by
    simp only [List.mem_cons, List.not_mem_nil, or_false, not_or] at c1 ⊢
    exact ⟨c1.1, c1.2, c2, c3, c4⟩)]
  exact ats_nil
end
end Toy

set_option Elab.async false
set_option linter.all false
set_option maxRecDepth 100000
set_option maxHeartbeats 4000000
/-! Part R: the names in a row; the names around each part; all names that are bound in a term. -/
namespace Toy
open PySem L2
open PyProof.Rows (envOfC)
theorem dflt_own (d : Dd) (h : isDflt d = true) : (dfltNs d).flatten.length + Dd.szs (dfltP d) ≤ d.sz := by
  match d, h with
  | .non, _ => show 0 + 0 ≤ 1; omega
  | .tup l, h =>
    obtain ⟨x, y, rfl⟩ := len2 (of_decide_eq_true (fand h).1)
    show 1 + (y.sz + 0) ≤ 1 + (x.sz + (y.sz + 0))
    have := sz_pos x
    omega
theorem let_own : ∀ (l : List Dd), (∀ q ∈ l, ∃ m, q = .tup m ∧ m.length = 2) → l.length + Dd.szs (l.map (nth 1)) ≤ Dd.szs l
  | [], _ => Nat.le_refl _
  | q :: l, h => by
    obtain ⟨m, rfl, hm⟩ := h q (List.mem_cons_self ..)
    obtain ⟨x, y, rfl⟩ := len2 hm
    have ih := let_own l fun p hp => h p (List.mem_cons_of_mem _ hp)
    show l.length + 1 + (y.sz + Dd.szs (l.map (nth 1))) ≤ (1 + (x.sz + (y.sz + 0))) + Dd.szs l
    omega
theorem strs_le (d : Dd) : (strsOf d).length ≤ d.sz := by
  have h1 := szs_tl d
  have h2 := szs_len (tl d)
  unfold strsOf
  rw [List.length_map]
  omega
theorem case_own : ∀ (l : List Dd), (∀ q ∈ l, ∃ m, q = .tup m ∧ m.length = 3) → ((l.map fun q => strsOf (nth 1 q)).flatten).length + Dd.szs (l.map lastD) ≤ Dd.szs l
  | [], _ => Nat.le_refl _
  | q :: l, h => by
    obtain ⟨m, rfl, hm⟩ := h q (List.mem_cons_self ..)
    obtain ⟨x, y, z, rfl⟩ := len3 hm
    have ih := case_own l fun p hp => h p (List.mem_cons_of_mem _ hp)
    have hy := strs_le y
    rw [List.map_cons, List.flatten_cons, List.length_append, List.map_cons]
    show (strsOf y).length + _ + (z.sz + Dd.szs (l.map lastD)) ≤ (1 + (x.sz + (y.sz + (z.sz + 0)))) + Dd.szs l
    omega
theorem nil_own {α : Type} : ∀ (l : List α), ((l.map fun _ => ([] : List Str)).flatten) = []
  | [] => rfl
  | _ :: l => nil_own l
/-- names and parts together are less than the term -/
theorem own_sz {k : Dd} (h : formB k = true) : (ownN k).length + Dd.szs (partsD k) < k.sz := by
  obtain ⟨z, r, rfl, hf⟩ := form_tup h
  have hp := parts_sz h
  show (ownW z r).flatten.length + Dd.szs (partsW z r) < 1 + (1 + Dd.szs r)
  have hp : Dd.szs (partsW z r) < 1 + (1 + Dd.szs r) := hp
  by_cases c1 : z = "lam"
  · subst c1
    rw [fw_lam] at hf
    obtain ⟨x, y, rfl⟩ := len2 (of_decide_eq_true (fand hf).1)
    rw [ow_lam, pw_lam]
    have := sz_pos x
    show 1 + (y.sz + 0) < 1 + (1 + (x.sz + (y.sz + 0)))
    omega
  by_cases c2 : z = "seq"
  · subst c2
    rw [fw_seq] at hf
    obtain ⟨x, y, y', rfl⟩ := len3 (of_decide_eq_true (fand hf).1)
    rw [ow_seq, pw_seq]
    have := sz_pos x
    show 1 + (y.sz + (y'.sz + 0)) < 1 + (1 + (x.sz + (y.sz + (y'.sz + 0))))
    omega
  by_cases c3 : z = "let"
  · subst c3
    rw [fw_let] at hf
    obtain ⟨h2, hn⟩ := fand hf
    obtain ⟨h2, hrw⟩ := fand h2
    obtain ⟨x, y, rfl⟩ := len2 (of_decide_eq_true h2)
    obtain ⟨l, rfl, hrows⟩ := rows_are (show areRows 2 x = true from hrw)
    have ho := let_own l hrows
    rw [ow_let, pw_let]
    show ((l.map fun q => strOf (nth 0 q)) ++ []).length + Dd.szs (l.map (nth 1) ++ [y]) < 1 + (1 + ((1 + Dd.szs l) + (y.sz + 0)))
    rw [List.append_nil, List.length_map, szs_app]
    show l.length + (Dd.szs (l.map (nth 1)) + (y.sz + 0)) < _
    omega
  by_cases c4 : z = "case"
  · subst c4
    rw [fw_case] at hf
    obtain ⟨h1, h4⟩ := fand hf
    obtain ⟨h1, h3⟩ := fand h1
    obtain ⟨h1, h2⟩ := fand h1
    obtain ⟨x, y, d, rfl⟩ := len3 (of_decide_eq_true h1)
    obtain ⟨l, rfl, hr⟩ := rows_are (show areRows 3 y = true from h2)
    have ho := case_own l hr
    have hd := dflt_own d h3
    rw [ow_case, pw_case]
    show ((l.map (fun q => strsOf (nth 1 q)) ++ dfltNs d).flatten).length + Dd.szs (x :: (l.map lastD ++ dfltP d)) < 1 + (1 + (x.sz + ((1 + Dd.szs l) + (d.sz + 0))))
    rw [List.flatten_append, List.length_append]
    show _ + (x.sz + Dd.szs (l.map lastD ++ dfltP d)) < _
    rw [szs_app]
    omega
  by_cases c5 : z = "pick"
  · subst c5
    rw [fw_pick] at hf
    obtain ⟨h1, h4⟩ := fand hf
    obtain ⟨h1, h3⟩ := fand h1
    obtain ⟨h1, h2⟩ := fand h1
    obtain ⟨x, y, d, rfl⟩ := len3 (of_decide_eq_true h1)
    obtain ⟨l, rfl, hr⟩ := rows_are (show areRows 2 y = true from h2)
    have ho := lasts_sz l
    have hd := dflt_own d h3
    rw [ow_pick, pw_pick]
    show ((l.map (fun _ => []) ++ dfltNs d).flatten).length + Dd.szs (x :: (l.map lastD ++ dfltP d)) < 1 + (1 + (x.sz + ((1 + Dd.szs l) + (d.sz + 0))))
    rw [List.flatten_append, List.length_append, nil_own]
    show 0 + _ + (x.sz + Dd.szs (l.map lastD ++ dfltP d)) < _
    rw [szs_app]
    omega
  rw [ow_other r (by
    simp only [List.mem_cons, List.not_mem_nil, or_false, not_or]
    exact ⟨c1, c2, c3, c4, c5⟩)]
  show 0 + _ < _
  omega
theorem flat_take {α : Type} (L : List (List α)) (i : Nat) : (L.take i).flatten.length ≤ L.flatten.length := by
  have e : L.flatten = (L.take i).flatten ++ (L.drop i).flatten := by rw [← List.flatten_append, List.take_append_drop]
  rw [e, List.length_append]
  omega
theorem own_str {k : Dd} (h : formB k = true) : ∀ s ∈ ownN k, isName (.str s) = true := by
  obtain ⟨z, r, rfl, hf⟩ := form_tup h
  intro s hs
  have hs : s ∈ (ownW z r).flatten := hs
  have one : ∀ {d : Dd}, isName d = true → isName (.str (strOf d)) = true := fun h => by rwa [← name_str h]
  have dfl : ∀ {d : Dd}, isDflt d = true → s ∈ (dfltNs d).flatten → isName (.str s) = true := fun {d} hd hm => by
    match d, hd, hm with
    | .non, _, hm => cases hm
    | .tup l, hd, hm =>
      have hm : s ∈ [strOf (nth 0 (.tup l))] := hm
      rw [List.mem_singleton.mp hm]
      exact one (fand hd).2
  by_cases c1 : z = "lam"
  · subst c1
    rw [fw_lam] at hf
    rw [ow_lam] at hs
    have hs : s ∈ [strOf (arg 0 r)] := hs
    rw [List.mem_singleton.mp hs]
    exact one (fand hf).2
  by_cases c2 : z = "seq"
  · subst c2
    rw [fw_seq] at hf
    rw [ow_seq] at hs
    have hs : s ∈ [strOf (arg 0 r)] := hs
    rw [List.mem_singleton.mp hs]
    exact one (fand hf).2
  by_cases c3 : z = "let"
  · subst c3
    rw [fw_let] at hf
    rw [ow_let, List.flatten_cons, List.flatten_nil, List.append_nil] at hs
    obtain ⟨q, hq, rfl⟩ := List.mem_map.mp hs
    have h3 : ((tl (arg 0 r)).map (nth 0)).all isName = true := (fand (fand (fand hf).2).2).1
    rw [List.all_map] at h3
    exact one (List.all_eq_true.mp h3 q hq)
  by_cases c4 : z = "case"
  · subst c4
    rw [fw_case] at hf
    obtain ⟨h1, h4⟩ := fand hf
    rw [ow_case, List.flatten_append] at hs
    rcases List.mem_append.mp hs with e | e
    · obtain ⟨l, hl, hsl⟩ := List.mem_flatten.mp e
      obtain ⟨q, hq, rfl⟩ := List.mem_map.mp hl
      have hn := (fand (List.all_eq_true.mp h4 q hq)).2
      unfold strsOf at hsl
      obtain ⟨d, hd, rfl⟩ := List.mem_map.mp hsl
      match nth 1 q, hn, hd with
      | .tup l, hn, hd => exact one (List.all_eq_true.mp (fand hn).1 d hd)
    · exact dfl (fand h1).2 e
  by_cases c5 : z = "pick"
  · subst c5
    rw [fw_pick] at hf
    obtain ⟨h1, h4⟩ := fand hf
    rw [ow_pick, List.flatten_append, nil_own, List.nil_append] at hs
    exact dfl (fand h1).2 hs
  rw [ow_other r (by
    simp only [List.mem_cons, List.not_mem_nil, or_false, not_or]
    exact ⟨c1, c2, c3, c4, c5⟩)] at hs
  cases hs
theorem rep_one {α : Type} (x : α) : ∀ n : Nat, (List.replicate n [x]).flatten = List.replicate n x
  | 0 => rfl
  | n + 1 => by
    show x :: (List.replicate n [x]).flatten = x :: List.replicate n x
    rw [rep_one x n]
theorem ats_rep {B : Addr → Prop} {H : Hp} {k : Dd} {x : V} (h : k.At B H x) : ∀ n : Nat, Dd.Ats B H (List.replicate n k) (List.replicate n x)
  | 0 => rfl
  | n + 1 => ⟨x, _, rfl, h, ats_rep h n⟩
theorem map_rep {α β : Type} (b : β) : ∀ l : List α, (l.map fun _ => b) = List.replicate l.length b
  | [] => rfl
  | _ :: l => by
    show b :: (l.map fun _ => b) = b :: List.replicate l.length b
    rw [map_rep b l]
theorem scopes_plain {w : Str} {r : List Dd} (h : formW w r = true) (c1 : w ≠ "lam") (c2 : w ≠ "seq") (c3 : w ≠ "let") (c4 : w ≠ "case") (c5 : w ≠ "pick") : scopesW w r = (partsW w r).map fun _ => [] := by
  have hw := form_wordN h
  simp only [words, List.mem_cons, List.not_mem_nil, or_false] at hw
  rcases hw with rfl | rfl | rfl | rfl | rfl | rfl | rfl | rfl | rfl | rfl | rfl
  · rw [pw_num, show scopesW "num" r = [] by unfold scopesW; simp (config := { decide := true })]
    rfl
  · rw [pw_var, show scopesW "var" r = [] by unfold scopesW; simp (config := { decide := true })]
    rfl
  · rw [fw_app] at h
    obtain ⟨x, y, rfl⟩ := len2 (of_decide_eq_true h)
    rw [sw_app, pw_app]
    rfl
  · exact (c1 rfl).elim
  · exact (c3 rfl).elim
  · exact (c2 rfl).elim
  · rw [sw_con, pw_con]
  · exact (c4 rfl).elim
  · exact (c5 rfl).elim
  · rw [fw_prim] at h
    obtain ⟨x, y, y', rfl⟩ := len3 (of_decide_eq_true (fand h).1)
    rw [sw_prim, pw_prim]
    rfl
  · rw [sw_note, pw_note]
    rfl
section
variable {P : Program} {w : World} {K : PySem.W.Frag} {mg : Str → Option Value} {base : Heap}
abbrev sNamesOf : Stmt := topS 2
theorem scNamesOf : FnScope ["term", "names", "part_names"] ["term"] (defScope sNamesOf) := ⟨rfl, rfl, rfl, by decide +kernel, rfl, by decide +kernel, by decide +kernel⟩
def spNamesOf : Sp := fun vs H Q _ => ∃ (B : Addr → Prop) (v : V) (k : Dd), vs = [v] ∧ k.At B H v ∧ formB k = true ∧ k.sz ≤ 1000000 ∧ ∀ (u : Addr) (H' : Hp), Same H H' → H' u = some (.tup ((ownN k).map V.str)) → Q (.ref u) H'
theorem c_namesof {f : Addr} {fd : FuncData} (c_own_names : C8.Cal P w K mg base 2 "_own_names" spOwn []) (F : Fun K "names_of" "names_of" sNamesOf f fd) (b : Binds K fd ["term"] []) (hm : mg "names_of" = some (.ref f)) : C8.Cal P w K mg base 3 "names_of" spNamesOf [] := by
  refine cal_of F hm b scNamesOf (fun vs H Q E h => ?_) (fun cdv A outer s H vs Q E hr h => ?_)
  · obtain ⟨B, v, k, rfl, _⟩ := h
    rfl
  obtain ⟨B0, v, k, rfl, hat, hf, hsz, q⟩ := h
  have hos := own_sz hf
  refine ⟨_, (pss_cons (ps_set (i := 1) scNamesOf.nd rfl (Or.inl rfl) (pe_tup pa_nil))
    (pss_cons (ps_for PassesOwn.never rfl (pi_list (C8.pe_c c_own_names hr (by decide) rfl (pa_cons (pv 0) pa_nil))) (pg_name (i := 2) scNamesOf.nd rfl (Or.inl rfl))
      (pss_one (ps_aug (i := 1) scNamesOf.nd rfl (Or.inl rfl) (pv 2) ip_catA)))
    (pss_one (ps_ret (pv 1))))), ?_⟩
  refine ⟨by show 0 ≤ sizeLine; decide, fun u0 hu0 => ?_⟩
  have s0 := same_new hu0 (.tup [])
  refine ⟨_, rfl, B0, v, k, rfl, hat.keep (fr_same s0), hf, hsz, fun L xs H1 s1 hL h1 hx => ?_⟩
  refine ⟨L, rfl, ⟨_, SqL.of h1⟩, for_list (a := L) (xs := xs) (fun i σ G => ∃ (u : Addr) (v2 : Option V), σ = [some v, some (.ref u), v2] ∧ Same H1 G ∧ G u = some (.tup ((((ownD k).take i).flatten).map V.str))) ⟨u0, none, rfl, fun _ _ e => e, s1 _ _ upd_same⟩ (fun i σ G _ ⟨_, _, _, h, _⟩ => SqL.of (h _ _ h1)) ?_ ?_⟩
  · rintro i x σ G hxi ⟨u, v2, rfl, sG, hu⟩
    obtain ⟨pd, hpd, hpa⟩ := ats_get hx hxi
    rw [List.getElem?_map] at hpd
    cases hns : (ownD k)[i]? with
    | none => rw [hns] at hpd; cases hpd
    | some ns =>
      rw [hns] at hpd
      cases hpd
      obtain ⟨t, rfl, ht, hz⟩ := nameT_at hpa
      have tk : ((ownD k).take (i + 1)).flatten = ((ownD k).take i).flatten ++ ns := by
        rw [List.take_add_one, hns, List.flatten_append]
        show _ ++ (ns ++ []) = _
        rw [List.append_nil]
      have hlen := flat_take (ownD k) (i + 1)
      rw [tk, List.length_append] at hlen
      have hlen : ((ownD k).take i).flatten.length + ns.length ≤ (ownN k).length := hlen
      refine ⟨_, rfl, _, rfl, u, t, _, _, rfl, rfl, SqT.of hu, SqT.of (sG _ _ ht), ?_, fun e => ?_, fun e1 e2 => ?_, fun e1 e2 p hp => ?_⟩
      · rw [List.length_map, List.length_map]
        have := big
        omega
      · refine ⟨t, _, rfl, sG, ?_⟩
        rw [tk, List.map_append, e, List.nil_append]
        exact sG _ _ ht
      · refine ⟨u, _, rfl, sG, ?_⟩
        rw [tk, List.map_append, e2, List.append_nil]
        exact hu
      · refine ⟨p, _, rfl, sameT sG (same_new hp _), ?_⟩
        rw [upd_same, tk, List.map_append]
  rintro σ G ⟨u, v2, rfl, sG, hu⟩
  have hl := ats_len hx
  rw [List.length_map] at hl
  rw [hl, List.take_length] at hu
  exact ⟨_, rfl, q u G (sameT s0 (sameT s1 sG)) hu⟩
abbrev sScopes : Stmt := topS 3
theorem scScopes : FnScope ["term"] ["term"] (defScope sScopes) := ⟨rfl, rfl, rfl, by decide +kernel, rfl, by decide +kernel, by decide +kernel⟩
def spScopes : Sp := fun vs H Q _ => ∃ (B : Addr → Prop) (v : V) (k : Dd), vs = [v] ∧ k.At B H v ∧ formB k = true ∧ k.sz ≤ 1000000 ∧ ∀ (L : Addr) (xs : List V) (H' : Hp), Same H H' → H L = none → H' L = some (.lst xs) → Dd.Ats F0 H' ((scopesD k).map nameT) xs → Q (.ref L) H'
structure TxtS (mg : Str → Option Value) : Prop where
  zlen : mg "len" = none
  zzip : mg "zip" = none
  zsorted : mg "sorted" = none
  zsum : mg "sum" = none
theorem c_scopes {f : Addr} {fd : FuncData} (T : TxtS mg) (cnames_of : C8.Cal P w K mg base 3 "names_of" spNamesOf []) (c_own_names : C8.Cal P w K mg base 2 "_own_names" spOwn []) (cparts_of : C8.Cal P w K mg base 3 "parts_of" spParts []) (F : Fun K "scopes_of" "scopes_of" sScopes f fd) (b : Binds K fd ["term"] []) (hm : mg "scopes_of" = some (.ref f)) : C8.Cal P w K mg base 4 "scopes_of" spScopes [] := by
  refine cal_of F hm b scScopes (fun vs H Q E h => ?_) (fun cdv A outer s H vs Q E hr h => ?_)
  · obtain ⟨B, v, k, rfl, _⟩ := h
    rfl
  obtain ⟨B0, v, k, rfl, hat, hf, hsz, q⟩ := h
  refine ⟨_, (pss_cons (ps_if (pt_cmpR op_eq (pe_ix ix_tup (pv 0) pe_int (fun _ _ => rfl)) pe_str (nomark _))
      (pss_one (ps_ret (pe_op op_rep (pe_lst (pa_cons (C8.pe_c cnames_of hr (by decide) rfl (pa_cons (pv 0) pa_nil)) pa_nil)) (pe_op op_add (pe_callB call_len_seq rfl T.zlen PySem.boot_len (pa_cons (pe_ix ix_tup (pv 0) pe_int (fun _ _ => rfl)) pa_nil)) pe_int))))
      pss_nil)
    (pss_cons (ps_if (pt_cmpR op_eq (pe_ix ix_tup (pv 0) pe_int (fun _ _ => rfl)) pe_str (nomark _))
      (pss_one (ps_ret (C8.pe_c c_own_names hr (by decide) rfl (pa_cons (pv 0) pa_nil))))
      pss_nil)
    (pss_cons (ps_if (pt_cmpR op_in_seq (pe_ix ix_tup (pv 0) pe_int (fun _ _ => rfl)) (pe_tup (pa_strs (zs := ["seq", "case", "pick"]) rfl)) rfl)
      (pss_one (ps_ret (pe_lst (pa_cons (pe_tup pa_nil) (StX.pa_star (C8.pe_c c_own_names hr (by decide) rfl (pa_cons (pv 0) pa_nil)) pa_nil)))))
      pss_nil)
    (pss_one (ps_ret (pe_op op_rep (pe_lst (pa_cons (pe_tup pa_nil) pa_nil)) (pe_callB call_len_seq rfl T.zlen PySem.boot_len (pa_cons (C8.pe_c cparts_of hr (by decide) rfl (pa_cons (pv 0) pa_nil)) pa_nil)))))))), ?_⟩
  obtain ⟨z, r, rfl, hfz⟩ := form_tup hf
  obtain ⟨a, ys, rfl, ha, hys, hyl, hzl⟩ := head_at hat
  have hos := own_sz hf
  refine ⟨_, rfl, a, _, 0, _, rfl, rfl, SqT.of ha, at0 _ _, rfl, _, rfl, ?_⟩
  by_cases c1 : z = "let"
  · subst c1
    show if decide (V.str "let" = V.str "let") = true then _ else _
    rw [wtt]
    refine iteT ?_
    rw [fw_let] at hfz
    obtain ⟨h2, hn⟩ := fand hfz
    obtain ⟨h2, hrw⟩ := fand h2
    have hr2 : r.length = 2 := of_decide_eq_true h2
    obtain ⟨l, el, hrows⟩ := rows_are (show areRows 2 (arg 0 r) = true from hrw)
    obtain ⟨x, hx, hxa⟩ := arg_at (v0 := .str "let") hys (i := 0) (by omega)
    have hz := arg_sz (w := "let") (r := r) 0
    rw [el] at hxa hz
    obtain ⟨p, xs2, rfl, e2, hps⟩ := hxa
    have hxl := ats_len hps
    have hlz := szs_len l
    have hz : 1 + Dd.szs l ≤ _ := hz
    refine ⟨_, rfl, B0, .ref a, _, rfl, hat, hf, hsz, fun u H1 s1 hu => ?_⟩
    refine ⟨by show 1 ≤ sizeLine; decide, fun L0 hL0 => ?_⟩
    have s2 := same_new hL0 (.lst [.ref u])
    have e0 : upd H1 L0 (.lst [.ref u]) L0 = some (.lst [.ref u]) := upd_same
    generalize upd H1 L0 (.lst [.ref u]) = H2 at s2 e0 ⊢
    have sA := sameT s1 s2
    refine ⟨_, rfl, a, _, 1, _, rfl, rfl, SqT.of (sA _ _ ha), hx, p, _, rfl, .inr (SqT.of (sA _ _ e2)), ?_⟩
    have hbig := big
    refine ⟨_, _, rfl, rfl, L0, _, _, rfl, rfl, e0, ?_, ?_, ?_, fun L hL => ?_⟩
    · omega
    · rw [hxl]; omega
    · rw [hxl]
      show 1 * _ ≤ _
      omega
    have er : (List.replicate ((((xs2.length : Nat) : Int) + 1)).toNat [V.ref u]).flatten = List.replicate (l.length + 1) (V.ref u) := by
      rw [rep_one, hxl, show ((l.length : Int) + 1).toNat = l.length + 1 by omega]
    rw [er]
    have s3 := same_new hL (.lst (List.replicate (l.length + 1) (V.ref u)))
    refine q L _ _ (sameT sA s3) (free_of sA hL) upd_same ?_
    show Dd.Ats F0 _ ((scopesW "let" r).map nameT) _
    rw [sw_let, el]
    show Dd.Ats F0 _ ((l.map (fun _ => l.map fun q => strOf (nth 0 q)) ++ [l.map fun q => strOf (nth 0 q)]).map nameT) _
    rw [map_rep, show [l.map fun q => strOf (nth 0 q)] = List.replicate 1 (l.map fun q => strOf (nth 0 q)) from rfl, List.replicate_append_replicate, List.map_replicate]
    refine ats_rep (at_nameT (s3 _ _ (s2 _ _ ?_)) fun y hy => ?_) _
    · have e : ownN (.tup (.str "let" :: r)) = l.map fun q => strOf (nth 0 q) := by
        show (ownW "let" r).flatten = _
        rw [ow_let, el]
        exact List.append_nil _
      rw [← e]
      exact hu
    · have e : ownN (.tup (.str "let" :: r)) = l.map fun q => strOf (nth 0 q) := by
        show (ownW "let" r).flatten = _
        rw [ow_let, el]
        exact List.append_nil _
      rw [← e] at hy
      exact str_le (own_str hf y hy)
  show if decide (V.str z = V.str "let") = true then _ else _
  rw [wne c1]
  refine iteF ?_
  refine ⟨_, rfl, a, _, 0, _, rfl, rfl, SqT.of ha, at0 _ _, rfl, _, rfl, ?_⟩
  by_cases c2 : z = "lam"
  · subst c2
    show if decide (V.str "lam" = V.str "lam") = true then _ else _
    rw [wtt]
    refine iteT ?_
    refine ⟨_, rfl, B0, .ref a, _, rfl, hat, hf, hsz, fun L xs H1 s1 hL h1 hx => q L xs H1 s1 hL h1 ?_⟩
    show Dd.Ats F0 _ ((scopesW "lam" r).map nameT) _
    rw [sw_lam, ← ow_lam]
    exact hx
  show if decide (V.str z = V.str "lam") = true then _ else _
  rw [wne c2]
  refine iteF ?_
  refine ⟨_, rfl, a, _, 0, _, rfl, rfl, SqT.of ha, at0 _ _, by show 3 ≤ sizeLine; decide, fun t1 ht1 => ?_⟩
  have s1 := same_new ht1 (.tup ([("seq" : Str), "case", "pick"].map V.str))
  have e1 : upd H t1 (.tup ([("seq" : Str), "case", "pick"].map V.str)) t1 = some (.tup ([("seq" : Str), "case", "pick"].map V.str)) := upd_same
  refine ⟨t1, _, rfl, .inr (SqT.of e1), rfl, flat_strs _, _, rfl, ?_⟩
  rw [in_ifs]
  have ha1 := s1 _ _ ha
  generalize upd H t1 (.tup ([("seq" : Str), "case", "pick"].map V.str)) = H1 at s1 e1 ha1 ⊢
  by_cases c3 : z ∈ [("seq" : Str), "case", "pick"]
  · rw [decide_eq_true c3]
    refine iteT ?_
    have eS : scopesW z r = [] :: ownW z r := by
      simp only [List.mem_cons, List.not_mem_nil, or_false] at c3
      rcases c3 with rfl | rfl | rfl
      · rw [sw_seq, ow_seq]
      · rw [sw_case, ow_case]
      · rw [sw_pick, ow_pick]
    refine ⟨by show 0 ≤ sizeLine; decide, fun u0 hu0 => ?_⟩
    have s2 := same_new hu0 (.tup [])
    have e2 : upd H1 u0 (.tup []) u0 = some (.tup (([] : List Str).map V.str)) := upd_same
    generalize upd H1 u0 (.tup []) = H2 at s2 e2 ⊢
    refine ⟨_, rfl, B0, .ref a, _, rfl, hat.keep (fr_same (sameT s1 s2)), hf, hsz, fun L2 xs H3 s3 hL2 h3 hx => ?_⟩
    have hxl := ats_len hx
    rw [List.length_map] at hxl
    refine ⟨L2, xs, rfl, .inr (SqL.of h3), ?_, fun L hL => ?_⟩
    · have h5 : (ownD (.tup (.str z :: r))).length ≤ 1000000 := by
        have h6 := scopes_len hf
        have h7 : (scopesD (.tup (.str z :: r))).length = (ownD (.tup (.str z :: r))).length + 1 := by
          show (scopesW z r).length = (ownW z r).length + 1
          rw [eS]
          rfl
        have h8 := szs_len (partsD (.tup (.str z :: r)))
        omega
      have := big
      simp only [List.append_nil, List.length_cons]
      omega
    rw [show xs ++ [] = xs from List.append_nil _]
    have s4 := same_new hL (.lst (.ref u0 :: xs))
    have sA := sameT s1 (sameT s2 s3)
    refine q L _ _ (sameT sA s4) (free_of sA hL) upd_same ?_
    show Dd.Ats F0 _ ((scopesW z r).map nameT) _
    rw [eS]
    exact ats_cons (at_nameT (zs := []) (s4 _ _ (s3 _ _ e2)) fun y hy => by cases hy) (hx.keep (fr_same s4))
  rw [decide_eq_false c3]
  refine iteF ?_
  have c3' := c3
  simp only [List.mem_cons, List.not_mem_nil, or_false, not_or] at c3'
  have eS := scopes_plain hfz c2 c3'.1 c1 c3'.2.1 c3'.2.2
  refine ⟨by show 0 ≤ sizeLine; decide, fun u0 hu0 => ?_⟩
  have s2 := same_new hu0 (.tup [])
  have e2 : upd H1 u0 (.tup []) u0 = some (.tup (([] : List Str).map V.str)) := upd_same
  generalize upd H1 u0 (.tup []) = H2 at s2 e2 ⊢
  refine ⟨by show 1 ≤ sizeLine; decide, fun L0 hL0 => ?_⟩
  have s3 := same_new hL0 (.lst [.ref u0])
  have e3 : upd H2 L0 (.lst [.ref u0]) L0 = some (.lst [.ref u0]) := upd_same
  generalize upd H2 L0 (.lst [.ref u0]) = H3 at s3 e3 ⊢
  have sA := sameT s1 (sameT s2 s3)
  refine ⟨_, rfl, B0, .ref a, _, rfl, hat.keep (fr_same sA), hf, hsz, fun b2 zs H4 s4 hb2 hzs => ?_⟩
  have hzl2 := ats_len hzs
  have hpl := szs_len (partsD (.tup (.str z :: r)))
  have hbig := big
  refine ⟨b2, _, rfl, .inr (SqT.of hb2), L0, _, _, rfl, rfl, s4 _ _ e3, ?_, ?_, ?_, fun L hL => ?_⟩
  · omega
  · rw [hzl2]; omega
  · rw [hzl2]
    show 1 * _ ≤ _
    omega
  have er : (List.replicate (((zs.length : Nat) : Int)).toNat [V.ref u0]).flatten = List.replicate (partsW z r).length (V.ref u0) := by
    rw [rep_one, hzl2, Int.toNat_natCast]
    rfl
  rw [er]
  have s5 := same_new hL (.lst (List.replicate (partsW z r).length (V.ref u0)))
  have sB := sameT sA s4
  refine q L _ _ (sameT sB s5) (free_of sB hL) upd_same ?_
  show Dd.Ats F0 _ ((scopesW z r).map nameT) _
  rw [eS, map_rep, List.map_replicate]
  exact ats_rep (at_nameT (zs := []) (s5 _ _ (s4 _ _ (s3 _ _ e2))) fun y hy => by cases hy) _
end
end Toy

set_option Elab.async false
set_option linter.all false
set_option maxRecDepth 100000
set_option maxHeartbeats 4000000
/-! Part Y: own rule: a loop over zip(t, l), t a tuple and l a list. -/
namespace Mix
open PySem PySem.Spec PyProof.Rows L2
/-- a row of this kind: a tuple where c, a list otherwise -/
def Row (c : Bool) (g : Heap) (p : Addr) (us : Array Value) : Prop := match c with
  | true => g.IsTuple p us
  | false => g.IsList p us
/-- the walker over it, ahead of item m -/
def Wlk (c : Bool) (g : Heap) (j p : Addr) (m : Nat) : Prop := match c with
  | true => g.IsTupleIter j p m
  | false => g.IsListIter j p m
theorem Row.ext {c : Bool} {g g' : Heap} {p q : Addr} {us : Array Value} (r : Row c g p us) (b : Heap.ExtBut q g g') (n : p ≠ q) : Row c g' p us := by
  cases c
  · exact Heap.IsList.extBut r b n
  · exact Heap.IsTuple.extBut r b n
theorem Wlk.ext {c : Bool} {g g' : Heap} {j p q : Addr} {m : Nat} (r : Wlk c g j p m) (b : Heap.ExtBut q g g') (n : j ≠ q) : Wlk c g' j p m := by
  cases c
  · exact Heap.IsListIter.extBut r b n
  · exact Heap.IsTupleIter.extBut r b n
theorem Wlk.at {c : Bool} {g g' : Heap} {j p : Addr} {m : Nat} (r : Wlk c g j p m) (k : ∀ o, g.get? j = some o → g'.get? j = some o) : Wlk c g' j p m := by
  cases c
  · exact Heap.IsListIter.at r k
  · exact Heap.IsTupleIter.at r k
theorem Wlk.there {c : Bool} {g : Heap} {j p : Addr} {m : Nat} (r : Wlk c g j p m) : ∃ o, g.get? j = some o ∧ ∀ v, o.data ≠ .cell v := by
  cases c
  · obtain ⟨o, e, _, d⟩ := r
    exact ⟨o, e, fun v z => by rw [d] at z; cases z⟩
  · obtain ⟨o, e, _, d⟩ := r
    exact ⟨o, e, fun v z => by rw [d] at z; cases z⟩
theorem Wlk.lt {c : Bool} {g : Heap} {j p : Addr} {m : Nat} (r : Wlk c g j p m) : j < g.objs.size := by
  obtain ⟨o, e, _⟩ := Wlk.there r
  exact Heap.lt_size e
section
variable {prog : Program} {w : World} {A : Around} {E : Value → Shared → Prop} {s : Shared}
theorem step_item {c : Bool} {j p : Addr} {m : Nat} {us : Array Value} {u : Value} {Q : Value → Shared → Prop} (r : Wlk c s.heap j p m) (k : Row c s.heap p us) (e : us[m]? = some u)
    (q : ∀ g, Wlk c g j p (m + 1) → Heap.SameBut j s.heap g → Q u { s with heap := g }) : wpAny (model prog w) A (Builtin.SmallTypes.nextOf (.ref j)) Q E s := by
  cases c
  · exact wpAny_nextOf_list_item r k e q
  · exact RZ.nextOf_tuple_item r k e q
theorem step_end {c : Bool} {j p : Addr} {m : Nat} {us : Array Value} {Q : Value → Shared → Prop} (hh : A.handled = none) (r : Wlk c s.heap j p m) (k : Row c s.heap p us) (e : us[m]? = none)
    (q : ∀ g x, Heap.ExtBut j s.heap g → (∃ o, g.get? x = some o ∧ o.cls = .type "StopIteration") → E (.ref x) { s with heap := g }) : wpAny (model prog w) A (Builtin.SmallTypes.nextOf (.ref j)) Q E s := by
  cases c
  · exact wpAny_nextOf_list_end hh r k e q
  · exact RZ.nextOf_tuple_end hh r k e q
theorem mz_item {c d : Bool} {zz ti to j1 j2 ta tb : Addr} {m n : Nat} {us vs : Array Value} {u v a b : Value} {Q : Value → Shared → Prop} (D : ZipApart zz ti to j1 j2 ta tb)
    (fz : IsZip s.heap zz ti to .none) (fi : IsPair s.heap ti (.ref j1) (.ref j2)) (fo : IsPair s.heap to a b)
    (r1 : Wlk c s.heap j1 ta m) (r2 : Wlk d s.heap j2 tb n) (k1 : Row c s.heap ta us) (k2 : Row d s.heap tb vs) (eu : us[m]? = some u) (ev : vs[n]? = some v)
    (q : ∀ g, IsZip g zz ti to (rawInt s.heap.objs.size) → IsPair g to u v → Wlk c g j1 ta (m + 1) → Wlk d g j2 tb (n + 1) → IsPair g s.heap.objs.size u v → g.objs.size = s.heap.objs.size + 1 →
      (∀ x o, x ≠ zz → x ≠ to → x ≠ j1 → x ≠ j2 → s.heap.get? x = some o → g.get? x = some o) → Q (.ref s.heap.objs.size) { s with heap := g }) :
    wpAny (model prog w) A (Builtin.«zip.__next__» ⟨[.ref zz], []⟩) (fun fin s' => ∃ y, fin = .done (.ret y) ∧ Q y s') E s := by
  show wpAny _ _ (field (.ref zz) 2 >>= _) _ _ _
  refine wpAny_bind (wpAny_field fz rfl (x := .bool false) rfl ?_)
  show wpAny _ _ (field (.ref zz) 3 >>= _) _ _ _
  refine wpAny_bind (wpAny_field fz rfl (x := .ref ti) rfl ?_)
  refine wpAny_bind (wpAny_seqItems fi rfl ?_)
  show wpAny _ _ (Builtin.SmallTypes.ownedTupleIsFree (.ref zz) >>= _) _ _ _
  refine wpAny_bind ?_
  unfold Builtin.SmallTypes.ownedTupleIsFree
  refine wpAny_bind (wpAny_field fz rfl (x := .none) rfl (wpAny_pure ?_))
  simp only [if_true]
  refine wpAny_bind (wpAny_rule ?_)
  refine wpAny_bind (wpAny_field fz rfl (x := .ref to) rfl ?_)
  refine wpAny_bind (wpAny_setField_rec fz (by simp) fun g1 z1 b1 => ?_)
  replace z1 : IsZip g1 zz ti to .ellipsis := z1
  refine wpAny_bind ?_
  simp only [List.forIn_cons, List.forIn_nil, List.zipIdx_cons, List.zipIdx_nil]
  refine wpAny_bind (wpAny_bind (wpAny_onRaise (show wpAny _ _ (Builtin.SmallTypes.nextOf (.ref j1) >>= _) _ _ _ from ?_)))
  refine wpAny_bind (step_item (s := { s with heap := g1 }) (r1.ext b1.extBut D.i1z) (k1.ext b1.extBut D.l1z) eu fun g2 y1 b2 => wpAny_pure ?_)
  have o2 : IsPair g2 to a b := b2.extBut _ _ D.TOi1 (b1.extBut _ _ D.TOz fo)
  refine wpAny_bind (wpAny_seqItems o2 rfl (wpAny_bind (wpAny_updateSeq_pair o2 fun g3 o3 b3 => ?_)))
  replace o3 : IsPair g3 to u b := o3
  refine wpAny_bind (wpAny_letGo (wpAny_pure ?_))
  refine wpAny_bind (wpAny_bind (wpAny_onRaise (show wpAny _ _ (Builtin.SmallTypes.nextOf (.ref j2) >>= _) _ _ _ from ?_)))
  refine wpAny_bind (step_item (s := { s with heap := g3 }) (((r2.ext b1.extBut D.i2z).ext b2.extBut D.i12.symm).ext b3.extBut D.TOi2.symm) (((k2.ext b1.extBut D.l2z).ext b2.extBut D.l2i1).ext b3.extBut D.l2TO) ev fun g4 y2 b4 => wpAny_pure ?_)
  have o4 : IsPair g4 to u b := b4.extBut _ _ D.TOi2 o3
  refine wpAny_bind (wpAny_seqItems o4 rfl (wpAny_bind (wpAny_updateSeq_pair o4 fun g5 o5 b5 => ?_)))
  replace o5 : IsPair g5 to u v := o5
  refine wpAny_bind (wpAny_letGo (wpAny_pure (wpAny_pure (wpAny_bind (wpAny_seqItems o5 rfl (wpAny_bind (wpAny_newTuple ?_)))))))
  have sz : g5.objs.size = s.heap.objs.size := by rw [b5.1, b4.1, b3.1, b2.1, b1.1]
  have z5 : IsZip g5 zz ti to .ellipsis := b5.extBut _ _ D.TOz.symm (b4.extBut _ _ D.i2z.symm (b3.extBut _ _ D.TOz.symm (b2.extBut _ _ D.i1z.symm z1)))
  have kp : ∀ x o, x ≠ zz → x ≠ to → x ≠ j1 → x ≠ j2 → s.heap.get? x = some o → g5.get? x = some o := fun x o n1 n2 n3 n4 e =>
    b5.extBut _ _ n2 (b4.extBut _ _ n4 (b3.extBut _ _ n2 (b2.extBut _ _ n3 (b1.extBut _ _ n1 e))))
  have w1 : Wlk c g5 j1 ta (m + 1) := ((y1.ext b3.extBut D.TOi1.symm).ext b4.extBut D.i12).ext b5.extBut D.TOi1.symm
  have w2 : Wlk d g5 j2 tb (n + 1) := y2.ext b5.extBut D.TOi2.symm
  have lz : zz < g5.objs.size := Heap.lt_size z5
  show wpAny _ _ (Builtin.SmallTypes.ownedTupleHandOut (.ref zz) (.ref g5.objs.size) >>= _) _ _ _
  refine wpAny_bind ?_
  unfold Builtin.SmallTypes.ownedTupleHandOut
  have z6 : IsZip (g5.push { cls := .type "tuple", data := .seq #[u, v] }) zz ti to .ellipsis := Heap.get?_push_of_some _ z5
  refine wpAny_bind (wpAny_setField_rec z6 (by simp) fun g7 z7 b7 => ?_)
  replace z7 : IsZip g7 zz ti to (rawInt g5.objs.size) := z7
  refine wpAny_setField_rec z7 (by simp) fun g8 z8 b8 => ?_
  replace z8 : IsZip g8 zz ti to (rawInt g5.objs.size) := z8
  have up : ∀ x o, x ≠ zz → g5.get? x = some o → g8.get? x = some o := fun x o n1 e => b8.extBut _ _ n1 (b7.extBut _ _ n1 (Heap.get?_push_of_some _ e))
  have new : IsPair g8 g5.objs.size u v := b8.extBut _ _ (Nat.ne_of_gt lz) (b7.extBut _ _ (Nat.ne_of_gt lz) (Heap.get?_push_size _ rfl))
  have s8 : g8.objs.size = g5.objs.size + 1 := by rw [b8.1, b7.1, Heap.size_push]
  rw [sz] at z8 new s8
  refine wpAny_pure ⟨_, rfl, ?_⟩
  show Q (.ref g5.objs.size) _
  rw [sz]
  exact q g8 z8 (up _ _ D.TOz o5) (w1.at fun o e => up _ o D.i1z e) (w2.at fun o e => up _ o D.i2z e) new s8 fun x o n1 n2 n3 n4 e => up x o n1 (kp x o n1 n2 n3 n4 e)
theorem mz_end {c d : Bool} {zz ti to j1 j2 ta tb : Addr} {m n : Nat} {us vs : Array Value} {a b : Value} {Q : Fin → Shared → Prop} (hh : A.handled = none) (D : ZipApart zz ti to j1 j2 ta tb)
    (fz : IsZip s.heap zz ti to .none) (fi : IsPair s.heap ti (.ref j1) (.ref j2)) (fo : IsPair s.heap to a b)
    (r1 : Wlk c s.heap j1 ta m) (r2 : Wlk d s.heap j2 tb n) (k1 : Row c s.heap ta us) (k2 : Row d s.heap tb vs) (fin : us[m]? = none ∨ vs[n]? = none)
    (stop : ∀ g x, (∀ y o, y ≠ zz → y ≠ to → y ≠ j1 → y ≠ j2 → s.heap.get? y = some o → g.get? y = some o) → (∃ o, g.get? x = some o ∧ o.cls = .type "StopIteration") → E (.ref x) { s with heap := g }) :
    wpAny (model prog w) A (Builtin.«zip.__next__» ⟨[.ref zz], []⟩) Q E s := by
  show wpAny _ _ (field (.ref zz) 2 >>= _) _ _ _
  refine wpAny_bind (wpAny_field fz rfl (x := .bool false) rfl ?_)
  show wpAny _ _ (field (.ref zz) 3 >>= _) _ _ _
  refine wpAny_bind (wpAny_field fz rfl (x := .ref ti) rfl ?_)
  refine wpAny_bind (wpAny_seqItems fi rfl ?_)
  show wpAny _ _ (Builtin.SmallTypes.ownedTupleIsFree (.ref zz) >>= _) _ _ _
  refine wpAny_bind ?_
  unfold Builtin.SmallTypes.ownedTupleIsFree
  refine wpAny_bind (wpAny_field fz rfl (x := .none) rfl (wpAny_pure ?_))
  simp only [if_true]
  refine wpAny_bind (wpAny_rule ?_)
  refine wpAny_bind (wpAny_field fz rfl (x := .ref to) rfl ?_)
  refine wpAny_bind (wpAny_setField_rec fz (by simp) fun g1 z1 b1 => ?_)
  replace z1 : IsZip g1 zz ti to .ellipsis := z1
  refine wpAny_bind ?_
  simp only [List.forIn_cons, List.forIn_nil, List.zipIdx_cons, List.zipIdx_nil]
  refine wpAny_bind (wpAny_bind (wpAny_onRaise (show wpAny _ _ (Builtin.SmallTypes.nextOf (.ref j1) >>= _) _ _ _ from ?_)))
  cases hu : us[m]? with
  | none =>
    refine wpAny_bind (step_end (s := { s with heap := g1 }) hh (r1.ext b1.extBut D.i1z) (k1.ext b1.extBut D.l1z) hu fun g2 x b2 hx => ?_)
    obtain ⟨oe, e1, e2⟩ := hx
    have z2 : IsZip g2 zz ti to .ellipsis := b2 _ _ D.i1z.symm z1
    have ne : x ≠ zz := fun y => by subst y; rw [z2] at e1; cases e1; simp at e2
    exact wpAny_setField_rec z2 (by simp) fun g3 _ b3 => stop g3 x (fun y o n1 _ n3 _ e => b3.extBut _ _ n1 (b2 _ _ n3 (b1.extBut _ _ n1 e))) ⟨oe, b3.extBut _ _ ne e1, e2⟩
  | some u =>
    have hv : vs[n]? = none := fin.elim (fun z => by rw [hu] at z; cases z) id
    refine wpAny_bind (step_item (s := { s with heap := g1 }) (r1.ext b1.extBut D.i1z) (k1.ext b1.extBut D.l1z) hu fun g2 y1 b2 => wpAny_pure ?_)
    have o2 : IsPair g2 to a b := b2.extBut _ _ D.TOi1 (b1.extBut _ _ D.TOz fo)
    refine wpAny_bind (wpAny_seqItems o2 rfl (wpAny_bind (wpAny_updateSeq_pair o2 fun g3 o3 b3 => ?_)))
    refine wpAny_bind (wpAny_letGo (wpAny_pure ?_))
    refine wpAny_bind (wpAny_bind (wpAny_onRaise (show wpAny _ _ (Builtin.SmallTypes.nextOf (.ref j2) >>= _) _ _ _ from ?_)))
    refine wpAny_bind (step_end (s := { s with heap := g3 }) hh (((r2.ext b1.extBut D.i2z).ext b2.extBut D.i12.symm).ext b3.extBut D.TOi2.symm) (((k2.ext b1.extBut D.l2z).ext b2.extBut D.l2i1).ext b3.extBut D.l2TO) hv fun g4 x b4 hx => ?_)
    obtain ⟨oe, e1, e2⟩ := hx
    have z4 : IsZip g4 zz ti to .ellipsis := b4 _ _ D.i2z.symm (b3.extBut _ _ D.TOz.symm (b2.extBut _ _ D.i1z.symm z1))
    have ne : x ≠ zz := fun y => by subst y; rw [z4] at e1; cases e1; simp at e2
    exact wpAny_setField_rec z4 (by simp) fun g5 _ b5 => stop g5 x (fun y o n1 n2 n3 n4 e => b5.extBut _ _ n1 (b4 _ _ n4 (b3.extBut _ _ n2 (b2.extBut _ _ n3 (b1.extBut _ _ n1 e))))) ⟨oe, b5.extBut _ _ ne e1, e2⟩
theorem next_item {c d : Bool} {zz ti to j1 j2 ta tb : Addr} {m n : Nat} {us vs : Array Value} {u v a b : Value} {Q : Option Value → Shared → Prop} (D : ZipApart zz ti to j1 j2 ta tb)
    (fz : IsZip s.heap zz ti to .none) (fi : IsPair s.heap ti (.ref j1) (.ref j2)) (fo : IsPair s.heap to a b)
    (r1 : Wlk c s.heap j1 ta m) (r2 : Wlk d s.heap j2 tb n) (k1 : Row c s.heap ta us) (k2 : Row d s.heap tb vs) (eu : us[m]? = some u) (ev : vs[n]? = some v)
    (q : ∀ g, IsZip g zz ti to (rawInt s.heap.objs.size) → IsPair g to u v → Wlk c g j1 ta (m + 1) → Wlk d g j2 tb (n + 1) → IsPair g s.heap.objs.size u v → g.objs.size = s.heap.objs.size + 1 →
      (∀ x o, x ≠ zz → x ≠ to → x ≠ j1 → x ≠ j2 → s.heap.get? x = some o → g.get? x = some o) → Q (some (.ref s.heap.objs.size)) { s with heap := g }) : wpAny (model prog w) A (pyNext (.ref zz)) Q E s := by
  have ty : s.TypeIs (.ref zz) "zip" := ⟨_, fz, rfl⟩
  unfold pyNext
  exact wpAny_bind (wpAny_attempt (wpAny_callSpecial?_slot (name := Str.ofString "__next__") ty F.slot_zip_next (wpAny_call_entry F.slot_zip_next ty F.entry_zip_next
    (mz_item D fz fi fo r1 r2 k1 k2 eu ev fun g c1 c2 c3 c4 c5 c6 c7 => wpAny_pure (q g c1 c2 c3 c4 c5 c6 c7)) (F.args_zip_next_1 _))))
theorem next_end {c d : Bool} {zz ti to j1 j2 ta tb : Addr} {m n : Nat} {us vs : Array Value} {a b : Value} {Q : Option Value → Shared → Prop} (hh : A.handled = none) (D : ZipApart zz ti to j1 j2 ta tb)
    (fz : IsZip s.heap zz ti to .none) (fi : IsPair s.heap ti (.ref j1) (.ref j2)) (fo : IsPair s.heap to a b)
    (r1 : Wlk c s.heap j1 ta m) (r2 : Wlk d s.heap j2 tb n) (k1 : Row c s.heap ta us) (k2 : Row d s.heap tb vs) (fin : us[m]? = none ∨ vs[n]? = none)
    (q : ∀ g, (∀ y o, y ≠ zz → y ≠ to → y ≠ j1 → y ≠ j2 → s.heap.get? y = some o → g.get? y = some o) → Q none { s with heap := g }) : wpAny (model prog w) A (pyNext (.ref zz)) Q E s := by
  have ty : s.TypeIs (.ref zz) "zip" := ⟨_, fz, rfl⟩
  unfold pyNext
  refine wpAny_bind (wpAny_attempt (wpAny_callSpecial?_slot (name := Str.ofString "__next__") ty F.slot_zip_next (wpAny_call_entry F.slot_zip_next ty F.entry_zip_next
    (mz_end hh D fz fi fo r1 r2 k1 k2 fin fun g x kp hx => ?_) (F.args_zip_next_1 _))))
  obtain ⟨oe, e1, e2⟩ := hx
  refine wpAny_bind (wpAny_isInstance (T := "StopIteration") (b := true) ⟨oe, e1, e2⟩ isSubtype_stop ?_)
  exact wpAny_pure (q _ kp)
abbrev mh1 (g : Heap) (ta : Addr) : Heap := g.push { cls := .type "tuple_iterator", data := .fields #[.ref ta, .int 0 0] }
abbrev mh2 (g : Heap) (ta tb : Addr) : Heap := (mh1 g ta).push { cls := .type "list_iterator", data := .fields #[.ref tb, .int 0 0] }
abbrev mh3 (g : Heap) (ta tb : Addr) : Heap := (mh2 g ta tb).push { cls := .type "tuple", data := .seq #[.ref g.objs.size, .ref (mh1 g ta).objs.size] }
abbrev mh4 (g : Heap) (ta tb : Addr) : Heap := (mh3 g ta tb).push { cls := .type "tuple", data := .seq #[.none, .none] }
abbrev mh5 (g : Heap) (ta tb : Addr) : Heap := (mh4 g ta tb).push { cls := .type "zip", data := .fields #[.none, .bool false, .bool false, .ref (mh2 g ta tb).objs.size, .ref (mh3 g ta tb).objs.size] }
theorem new_zip (ta tb : Addr) (us vs : Array Value) :
    Meets (Builtin.«zip.__new__» ⟨[.type "zip", .ref ta, .ref tb], []⟩) (fun _ R s => s.heap.IsTuple ta us ∧ s.heap.IsList tb vs ∧
      R (.ok (.ret (.ref (mh4 s.heap ta tb).objs.size))) { s with heap := mh5 s.heap ta tb }) :=
  .of_wp fun prog w A R s q => by
    obtain ⟨hp, g, d, tk, os⟩ := s; obtain ⟨t1, t2, q⟩ := q
    have sub := sub_zip
    have u1 : Heap.IsTuple (Shared.heap ⟨hp, g, d, tk, os⟩) ta us := t1
    have u2 : Heap.IsList (Shared.heap ⟨hp.push { cls := .type "tuple_iterator", data := .fields #[.ref ta, .int 0 0] }, g, d, tk, os⟩) tb vs := Heap.IsList.push t2 _
    wp_walk using wpAny_pyIter_tuple u1, wpAny_pyIter_list u2
    exact ⟨_, rfl, q⟩
theorem call_zipM {ta tb : Addr} {us vs : Array Value} {Q : Value → Shared → Prop} (t1 : s.heap.IsTuple ta us) (t2 : s.heap.IsList tb vs)
    (q : ∀ g, IsZip g (s.heap.objs.size + 4) (s.heap.objs.size + 2) (s.heap.objs.size + 3) .none → IsPair g (s.heap.objs.size + 2) (.ref s.heap.objs.size) (.ref (s.heap.objs.size + 1)) →
      IsPair g (s.heap.objs.size + 3) .none .none → Wlk true g s.heap.objs.size ta 0 → Wlk false g (s.heap.objs.size + 1) tb 0 → g.objs.size = s.heap.objs.size + 5 →
      (∀ x o, s.heap.get? x = some o → g.get? x = some o) → Q (.ref (s.heap.objs.size + 4)) { s with heap := g }) : wpAny (model prog w) A (call (.type "zip") [.ref ta, .ref tb]) Q E s := by
  refine callType_new F.called_zip (by decide) (F.typeCall_zip_2 _ _) (F.newCall_zip_2 _ _) (fun obj => F.args_object_init_3 obj _ _) F.entry_zip_new (new_zip ta tb us vs) ⟨t1, t2, ?_⟩
  have y1 : (mh1 s.heap ta).objs.size = s.heap.objs.size + 1 := Heap.size_push ..
  have y2 : (mh2 s.heap ta tb).objs.size = s.heap.objs.size + 2 := by rw [Heap.size_push, y1]
  have y3 : (mh3 s.heap ta tb).objs.size = s.heap.objs.size + 3 := by rw [Heap.size_push, y2]
  have y4 : (mh4 s.heap ta tb).objs.size = s.heap.objs.size + 4 := by rw [Heap.size_push, y3]
  have y5 : (mh5 s.heap ta tb).objs.size = s.heap.objs.size + 5 := by rw [Heap.size_push, y4]
  have g5 : (mh5 s.heap ta tb).get? (mh4 s.heap ta tb).objs.size = some _ := Heap.get?_push_size _ rfl
  have g4 : (mh5 s.heap ta tb).get? (mh3 s.heap ta tb).objs.size = some _ := Heap.get?_push_of_some _ (Heap.get?_push_size _ rfl)
  have g3 : (mh5 s.heap ta tb).get? (mh2 s.heap ta tb).objs.size = some _ := Heap.get?_push_of_some _ (Heap.get?_push_of_some _ (Heap.get?_push_size _ rfl))
  have g2 : (mh5 s.heap ta tb).get? (mh1 s.heap ta).objs.size = some _ := Heap.get?_push_of_some _ (Heap.get?_push_of_some _ (Heap.get?_push_of_some _ (Heap.get?_push_size _ rfl)))
  have g1 : (mh5 s.heap ta tb).get? s.heap.objs.size = some _ := Heap.get?_push_of_some _ (Heap.get?_push_of_some _ (Heap.get?_push_of_some _ (Heap.get?_push_of_some _ (Heap.get?_push_size _ rfl))))
  show _ ∧ _
  rw [y2, y3, y4] at g5
  rw [y1, y2] at g3
  rw [y3] at g4
  rw [y1] at g2
  rw [y4]
  exact ⟨⟨_, g5, rfl⟩, q _ g5 g3 g4 ⟨_, g1, rfl, rfl⟩ ⟨_, g2, rfl, rfl⟩ y5 fun x o e => Heap.get?_push_of_some _ (Heap.get?_push_of_some _ (Heap.get?_push_of_some _ (Heap.get?_push_of_some _ (Heap.get?_push_of_some _ e))))⟩
end
/-- the tuple at a, the list at b, their items in new pairs -/
def Itm (K : PySem.W.Frag) (a b : Addr) : It :=
  ⟨fun i H => ∃ (xs ys : List V) (x y : V), SqT K H a xs ∧ SqL K H b ys ∧ xs[i]? = some x ∧ ys[i]? = some y,
    fun i H v H' => ∃ T x y, v = .ref T ∧ H T = none ∧ H' = upd H T (.tup [x, y]) ∧ (∀ xs, SqT K H a xs → xs[i]? = some x) ∧ ∀ ys, SqL K H b ys → ys[i]? = some y,
    fun i H => ∃ xs ys : List V, SqT K H a xs ∧ SqL K H b ys ∧ (xs.length ≤ i ∨ ys.length ≤ i)⟩
theorem turn_m {P : Program} {w : World} {K : PySem.W.Frag} {elts : List Expr} {kk : Nat} {tpos : Pos} {a b zz ti to j1 j2 : Addr} (D : ZipApart zz ti to j1 j2 a b) :
    Turn P w K (.Tuple elts kk tpos) (Itm K a b) [zz, ti, to, j1, j2] zz (fun i g => IsZip g zz ti to .none ∧ IsPair g ti (.ref j1) (.ref j2) ∧ (∃ x y, IsPair g to x y) ∧ Wlk true g j1 a i ∧ Wlk false g j2 b i) where
  mem := by simp
  obj := fun i g st c hc => by
    obtain ⟨q1, q2, ⟨x, y, q3⟩, q4, q5⟩ := st
    have e' : c = zz ∨ c = ti ∨ c = to ∨ c = j1 ∨ c = j2 := by simpa using hc
    rcases e' with q | q | q | q | q
    · rw [q]; exact ⟨_, q1, fun v z => nomatch z⟩
    · rw [q]; exact ⟨_, q2, fun v z => nomatch z⟩
    · rw [q]; exact ⟨_, q3, fun v z => nomatch z⟩
    · rw [q]; exact Wlk.there q4
    · rw [q]; exact Wlk.there q5
  keep := fun i g g' st k => by
    obtain ⟨q1, q2, ⟨x, y, q3⟩, q4, q5⟩ := st
    exact ⟨k zz (by simp) _ q1, k ti (by simp) _ q2, ⟨x, y, k to (by simp) _ q3⟩, q4.at fun o q => k j1 (by simp) o q, q5.at fun o q => k j2 (by simp) o q⟩
  item := by
    intro X hP hw hK hc i pins s σ H E I hf st hg
    subst hP hw hK
    obtain ⟨q1, q2, ⟨x0, y0, q3⟩, q4, q5⟩ := st
    obtain ⟨xs, ys, x, y, hqx, hqy, hx, hy⟩ := hg
    obtain ⟨us, rv, p, _⟩ := I.tuple hqx
    obtain ⟨vs, rv2, p2, _⟩ := I.list hqy
    obtain ⟨u, hu, ru⟩ := rv.get hx
    obtain ⟨v, hv, rv'⟩ := rv2.get hy
    have lz : zz < s.heap.objs.size := Heap.lt_size q1
    refine next_item (c := true) (d := false) D q1 q2 q3 q4 q5 p p2.isList (u := u) (v := v) (by simpa using hu) (by simpa using hv) fun g c1 c2 c3 c4 c5 c6 c7 => ?_
    refine ⟨_, rfl, wpAny_letOwnedTupleGo_zip (s := { s with heap := g }) c1 fun g' c8 sb => ?_⟩
    have c9 : g'.get? s.heap.objs.size = some { cls := .type "tuple", data := .seq #[u, v] } := (sb.2 _ (Nat.ne_of_gt lz)).trans c5
    have new : ObjOk X.prog X.w (upd H s.heap.objs.size (.tup [x, y])) g' s.heap.objs.size (.tup [x, y]) := ⟨by show 2 ≤ sizeLine; decide, [u, v], .cons ru (.cons rv' .nil), ⟨_, c9, rfl, _, rfl⟩⟩
    have I1 : Inv X pins σ (upd H s.heap.objs.size (.tup [x, y])) { s with heap := g' } :=
      I.turnedNew (t' := s.toks) (ch := [zz, ti, to, j1, j2]) (fun e o hb q => (sb.2 e (fun z => hb (by simp [z]))).trans (c7 e o (fun z => hb (by simp [z])) (fun z => hb (by simp [z])) (fun z => hb (by simp [z])) (fun z => hb (by simp [z])) q)) hf (Nat.le_refl _) new
    refine ⟨.ref s.heap.objs.size, _, I1, rfl, ⟨_, x, y, rfl, I.hok.fresh (Nat.le_refl _), rfl, fun l hl => by rw [I.tuple_inj hl hqx]; exact hx, fun l hl => by rw [I.list_inj hl hqy]; exact hy⟩, ⟨c8, ?_, ⟨u, v, ?_⟩, ?_, ?_⟩, fun e hcm => ?_⟩
    · exact (sb.2 _ D.TIz).trans (c7 _ _ D.TIz D.TITO D.TIi1 D.TIi2 q2)
    · exact (sb.2 _ D.TOz).trans c2
    · exact c3.at fun o q => (sb.2 _ D.i1z).trans q
    · exact c4.at fun o q => (sb.2 _ D.i2z).trans q
    · have hlt : e < s.heap.objs.size := by
        have e' : e = zz ∨ e = ti ∨ e = to ∨ e = j1 ∨ e = j2 := by simpa using hcm
        rcases e' with q | q | q | q | q
        · rw [q]; exact lz
        · rw [q]; exact Heap.lt_size q2
        · rw [q]; exact Heap.lt_size q3
        · rw [q]; exact Wlk.lt q4
        · rw [q]; exact Wlk.lt q5
      rw [upd_ne (Nat.ne_of_lt hlt)]
      exact (hf e hcm).1
  done := by
    intro X hP hw hK hc i pins s σ H E I hf st hg
    subst hP hw hK
    obtain ⟨q1, q2, ⟨x0, y0, q3⟩, q4, q5⟩ := st
    obtain ⟨xs, ys, hqx, hqy, hend⟩ := hg
    obtain ⟨us, rv, p, _⟩ := I.tuple hqx
    obtain ⟨vs, rv2, p2, _⟩ := I.list hqy
    have l1 := rv.length
    have l2 := rv2.length
    have fin : us.toArray[i]? = none ∨ vs.toArray[i]? = none := by
      rcases hend with q | q
      · exact .inl (by simp; omega)
      · exact .inr (by simp; omega)
    exact next_end (c := true) (d := false) (I.ok.hd hc) D q1 q2 q3 q4 q5 p p2.isList fin fun g kp => ⟨rfl, I.turnedL (t' := s.toks) (ch := [zz, ti, to, j1, j2]) (fun e o hb q =>
      kp e o (fun z => hb (by simp [z])) (fun z => hb (by simp [z])) (fun z => hb (by simp [z])) (fun z => hb (by simp [z])) q) hf⟩
  self := fun A i s Q E st h => wpAny_pyIter_zip st.1 h
def iZipM (K : PySem.W.Frag) (ta : TA) : TI := fun σ H R => ta σ H fun vs H1 => ∃ a b xs ys, vs = [.ref a, .ref b] ∧ SqT K H1 a xs ∧ SqL K H1 b ys ∧ R (Itm K a b) H1
theorem pi_zipM {X : Cx} {e e2 : Expr} {ta : TA} {p pos tpos : Pos} {elts : List Expr} {kk : Nat} (hg : Gl X "zip") (hm : X.mg "zip" = none) (ha : PA X [e, e2] ta)
    (hs : starEach [e, e2] X.env = (false, eval e X.env) :: starEach [e2] X.env := by rfl) (hpl : (backTo pos (starEach [e2] X.env)).any (·.1) = false := by rfl) :
    PI X (.Tuple elts kk tpos) (.Call (.Name "zip" p) [e, e2] [] pos) (iZipM X.K ta) := by
  refine ⟨fun pins s σ H R I h => ?_⟩
  refine Call_ (ld_blt I hg hm PyProof.Rows.boot_zip (PyProof.Rows.callWith_type1 (thn (ha.run pos pins s σ H _ I h) fun ws s1 ⟨vs, H1, I1, rw1, qw⟩ => ?_) hs hpl))
  obtain ⟨a, b, xs, ys, ex, hqx, hqy, q⟩ := qw
  subst ex
  cases rw1 with
  | cons r rr =>
    cases rr with
    | cons r' rr =>
      cases rr
      cases r
      cases r'
      obtain ⟨its, rv, p1, _⟩ := I1.tuple hqx
      obtain ⟨its2, rv2, p2, _⟩ := I1.list hqy
      obtain ⟨o1, ho1, _⟩ := id p1
      refine call_zipM (show s1.heap.IsTuple a its.toArray from p1) p2.isList fun g cz ci co r1 r2 cs kp => wpAny_pyIter_zip cz ?_
      have I2 : Inv X pins σ H1 { s1 with heap := g } := I1.kept (t' := s1.toks) kp
      refine ⟨s1.heap.objs.size + 4, [s1.heap.objs.size + 4, s1.heap.objs.size + 2, s1.heap.objs.size + 3, s1.heap.objs.size, s1.heap.objs.size + 1], _, _, H1, rfl, I2, turn_m (PySem.W.ktu_apart s1.heap.objs.size a b (Heap.lt_size ho1) p2.lt), ⟨cz, ci, ⟨_, _, co⟩, r1, r2⟩, fun x hcm => ?_, q⟩
      have hle : s1.heap.objs.size ≤ x := by
        simp only [List.mem_cons, List.not_mem_nil, or_false] at hcm
        rcases hcm with z | z | z | z | z <;> rw [z] <;> omega
      exact I1.fpOk hle (I1.hok.fresh hle)
/-- a loop over such a zip, both of one length -/
theorem for_zipM {K : PySem.W.Frag} {a b : Addr} {xs ys : List V} {g : TG} {tb : TS} {D : Ends} {σ : L2.St} {H : Hp} (hl : xs.length = ys.length) (Pv : Nat → L2.St → Hp → Prop) (h0 : Pv 0 σ H) (hq : ∀ i σ H, Pv i σ H → SqT K H a xs ∧ SqL K H b ys)
    (hs : ∀ (i : Nat) (x y : V) (T : Addr) (σ : L2.St) (H : Hp), xs[i]? = some x → ys[i]? = some y → Pv i σ H → H T = none → g (.ref T) σ (upd H T (.tup [x, y])) fun σ2 H2 => tb { D with nx := Pv (i + 1), ct := Pv (i + 1), bk := D.nx } σ2 H2) (hd : ∀ σ H, Pv xs.length σ H → D.nx σ H) :
    ∃ W : Nat → Nat → L2.St → Hp → Prop, (∃ m, W 0 m σ H) ∧ ∀ i m σ H, W i m σ H →
      ((Itm K a b).stop i H ∧ D.nx σ H) ∨ ((Itm K a b).go i H ∧ ∃ N : L2.St → Hp → Prop, (∀ σ' H', N σ' H' → ∃ m', m' < m ∧ W (i + 1) m' σ' H') ∧ ∀ v H', (Itm K a b).yld i H v H' → g v σ H' fun σ2 H2 => tb { D with nx := N, ct := N, bk := D.nx } σ2 H2) := by
  refine ⟨fun i m σ H => m = xs.length - i ∧ i ≤ xs.length ∧ Pv i σ H, ⟨xs.length, rfl, Nat.zero_le _, h0⟩, ?_⟩
  rintro i m σ H ⟨rfl, hi, p⟩
  obtain ⟨qx, qy⟩ := hq i σ H p
  rcases Nat.lt_or_ge i xs.length with lt | ge
  · refine .inr ⟨⟨xs, ys, xs[i], ys[i]'(by omega), qx, qy, List.getElem?_eq_getElem lt, List.getElem?_eq_getElem (by omega)⟩, Pv (i + 1), fun σ' H' p' => ⟨xs.length - (i + 1), by omega, rfl, lt, p'⟩, fun v H' hy => ?_⟩
    obtain ⟨T, x', y', rfl, hT, rfl, f1, f2⟩ := hy
    exact hs i x' y' T σ H (f1 xs qx) (f2 ys qy) p hT
  · have e : i = xs.length := by omega
    subst e
    exact .inl ⟨⟨xs, ys, qx, qy, .inl (Nat.le_refl _)⟩, hd σ H p⟩
end Mix

set_option Elab.async false
set_option linter.all false
set_option maxRecDepth 100000
set_option maxHeartbeats 4000000
/-! Part Z4: own rules: zip of two rows, each a tuple or a list. -/
namespace Mix
open PySem PySem.Spec PyProof.Rows L2
section
variable {prog : Program} {w : World} {A : Around} {E : Value → Shared → Prop} {s : Shared}
abbrev itr (c : Bool) (ta : Addr) : Obj := { cls := .type (if c then "tuple_iterator" else "list_iterator"), data := .fields #[.ref ta, .int 0 0] }
abbrev gh1 (c : Bool) (g : Heap) (ta : Addr) : Heap := g.push (itr c ta)
abbrev gh2 (c d : Bool) (g : Heap) (ta tb : Addr) : Heap := (gh1 c g ta).push (itr d tb)
abbrev gh3 (c d : Bool) (g : Heap) (ta tb : Addr) : Heap := (gh2 c d g ta tb).push { cls := .type "tuple", data := .seq #[.ref g.objs.size, .ref (gh1 c g ta).objs.size] }
abbrev gh4 (c d : Bool) (g : Heap) (ta tb : Addr) : Heap := (gh3 c d g ta tb).push { cls := .type "tuple", data := .seq #[.none, .none] }
abbrev gh5 (c d : Bool) (g : Heap) (ta tb : Addr) : Heap := (gh4 c d g ta tb).push { cls := .type "zip", data := .fields #[.none, .bool false, .bool false, .ref (gh2 c d g ta tb).objs.size, .ref (gh3 c d g ta tb).objs.size] }
theorem new_zip_tt (ta tb : Addr) (us vs : Array Value) :
    Meets (Builtin.«zip.__new__» ⟨[.type "zip", .ref ta, .ref tb], []⟩) (fun _ R s => s.heap.IsTuple ta us ∧ s.heap.IsTuple tb vs ∧
      R (.ok (.ret (.ref (gh4 true true s.heap ta tb).objs.size))) { s with heap := gh5 true true s.heap ta tb }) :=
  .of_wp fun prog w A R s q => by
    obtain ⟨hp, g, d, tk, os⟩ := s; obtain ⟨t1, t2, q⟩ := q
    have sub := sub_zip
    have u1 : Heap.IsTuple (Shared.heap ⟨hp, g, d, tk, os⟩) ta us := t1
    have u2 : Heap.IsTuple (Shared.heap ⟨hp.push { cls := .type "tuple_iterator", data := .fields #[.ref ta, .int 0 0] }, g, d, tk, os⟩) tb vs := Heap.IsTuple.push t2 _
    wp_walk using wpAny_pyIter_tuple u1, wpAny_pyIter_tuple u2
    exact ⟨_, rfl, q⟩
theorem new_zip_tl (ta tb : Addr) (us vs : Array Value) :
    Meets (Builtin.«zip.__new__» ⟨[.type "zip", .ref ta, .ref tb], []⟩) (fun _ R s => s.heap.IsTuple ta us ∧ s.heap.IsList tb vs ∧
      R (.ok (.ret (.ref (gh4 true false s.heap ta tb).objs.size))) { s with heap := gh5 true false s.heap ta tb }) :=
  .of_wp fun prog w A R s q => by
    obtain ⟨hp, g, d, tk, os⟩ := s; obtain ⟨t1, t2, q⟩ := q
    have sub := sub_zip
    have u1 : Heap.IsTuple (Shared.heap ⟨hp, g, d, tk, os⟩) ta us := t1
    have u2 : Heap.IsList (Shared.heap ⟨hp.push { cls := .type "tuple_iterator", data := .fields #[.ref ta, .int 0 0] }, g, d, tk, os⟩) tb vs := Heap.IsList.push t2 _
    wp_walk using wpAny_pyIter_tuple u1, wpAny_pyIter_list u2
    exact ⟨_, rfl, q⟩
theorem new_zip_lt (ta tb : Addr) (us vs : Array Value) :
    Meets (Builtin.«zip.__new__» ⟨[.type "zip", .ref ta, .ref tb], []⟩) (fun _ R s => s.heap.IsList ta us ∧ s.heap.IsTuple tb vs ∧
      R (.ok (.ret (.ref (gh4 false true s.heap ta tb).objs.size))) { s with heap := gh5 false true s.heap ta tb }) :=
  .of_wp fun prog w A R s q => by
    obtain ⟨hp, g, d, tk, os⟩ := s; obtain ⟨t1, t2, q⟩ := q
    have sub := sub_zip
    have u1 : Heap.IsList (Shared.heap ⟨hp, g, d, tk, os⟩) ta us := t1
    have u2 : Heap.IsTuple (Shared.heap ⟨hp.push { cls := .type "list_iterator", data := .fields #[.ref ta, .int 0 0] }, g, d, tk, os⟩) tb vs := Heap.IsTuple.push t2 _
    wp_walk using wpAny_pyIter_list u1, wpAny_pyIter_tuple u2
    exact ⟨_, rfl, q⟩
theorem new_zip_ll (ta tb : Addr) (us vs : Array Value) :
    Meets (Builtin.«zip.__new__» ⟨[.type "zip", .ref ta, .ref tb], []⟩) (fun _ R s => s.heap.IsList ta us ∧ s.heap.IsList tb vs ∧
      R (.ok (.ret (.ref (gh4 false false s.heap ta tb).objs.size))) { s with heap := gh5 false false s.heap ta tb }) :=
  .of_wp fun prog w A R s q => by
    obtain ⟨hp, g, d, tk, os⟩ := s; obtain ⟨t1, t2, q⟩ := q
    have sub := sub_zip
    have u1 : Heap.IsList (Shared.heap ⟨hp, g, d, tk, os⟩) ta us := t1
    have u2 : Heap.IsList (Shared.heap ⟨hp.push { cls := .type "list_iterator", data := .fields #[.ref ta, .int 0 0] }, g, d, tk, os⟩) tb vs := Heap.IsList.push t2 _
    wp_walk using wpAny_pyIter_list u1, wpAny_pyIter_list u2
    exact ⟨_, rfl, q⟩
theorem new_zipG : ∀ (c d : Bool) (ta tb : Addr) (us vs : Array Value), Meets (Builtin.«zip.__new__» ⟨[.type "zip", .ref ta, .ref tb], []⟩) (fun _ R s => Row c s.heap ta us ∧ Row d s.heap tb vs ∧
      R (.ok (.ret (.ref (gh4 c d s.heap ta tb).objs.size))) { s with heap := gh5 c d s.heap ta tb })
  | true, true => new_zip_tt
  | true, false => new_zip_tl
  | false, true => new_zip_lt
  | false, false => new_zip_ll
theorem wlk_new {c : Bool} {g : Heap} {j p : Addr} (e : g.get? j = some (itr c p)) : Wlk c g j p 0 := by
  cases c
  · exact ⟨_, e, rfl, rfl⟩
  · exact ⟨_, e, rfl, rfl⟩
theorem Row.up {c : Bool} {g g' : Heap} {p : Addr} {us : Array Value} (r : Row c g p us) (k : ∀ o, g.get? p = some o → g'.get? p = some o) : Row c g' p us := by
  cases c
  · exact Heap.IsList.at r k
  · exact Heap.IsTuple.at r k
theorem Row.low {c : Bool} {g : Heap} {p : Addr} {us : Array Value} (r : Row c g p us) : p < g.objs.size := by
  cases c
  · obtain ⟨o, e, _⟩ := (show g.IsList p us from r)
    exact Heap.lt_size e
  · obtain ⟨o, e, _⟩ := (show g.IsTuple p us from r)
    exact Heap.lt_size e
theorem call_zipG {c d : Bool} {ta tb : Addr} {us vs : Array Value} {Q : Value → Shared → Prop} (t1 : Row c s.heap ta us) (t2 : Row d s.heap tb vs)
    (q : ∀ g, IsZip g (s.heap.objs.size + 4) (s.heap.objs.size + 2) (s.heap.objs.size + 3) .none → IsPair g (s.heap.objs.size + 2) (.ref s.heap.objs.size) (.ref (s.heap.objs.size + 1)) →
      IsPair g (s.heap.objs.size + 3) .none .none → Wlk c g s.heap.objs.size ta 0 → Wlk d g (s.heap.objs.size + 1) tb 0 → g.objs.size = s.heap.objs.size + 5 →
      (∀ x o, s.heap.get? x = some o → g.get? x = some o) → Q (.ref (s.heap.objs.size + 4)) { s with heap := g }) : wpAny (model prog w) A (call (.type "zip") [.ref ta, .ref tb]) Q E s := by
  refine callType_new F.called_zip (by decide) (F.typeCall_zip_2 _ _) (F.newCall_zip_2 _ _) (fun obj => F.args_object_init_3 obj _ _) F.entry_zip_new (new_zipG c d ta tb us vs) ⟨t1, t2, ?_⟩
  have y1 : (gh1 c s.heap ta).objs.size = s.heap.objs.size + 1 := Heap.size_push ..
  have y2 : (gh2 c d s.heap ta tb).objs.size = s.heap.objs.size + 2 := by rw [Heap.size_push, y1]
  have y3 : (gh3 c d s.heap ta tb).objs.size = s.heap.objs.size + 3 := by rw [Heap.size_push, y2]
  have y4 : (gh4 c d s.heap ta tb).objs.size = s.heap.objs.size + 4 := by rw [Heap.size_push, y3]
  have y5 : (gh5 c d s.heap ta tb).objs.size = s.heap.objs.size + 5 := by rw [Heap.size_push, y4]
  have g5 : (gh5 c d s.heap ta tb).get? (gh4 c d s.heap ta tb).objs.size = some _ := Heap.get?_push_size _ rfl
  have g4 : (gh5 c d s.heap ta tb).get? (gh3 c d s.heap ta tb).objs.size = some _ := Heap.get?_push_of_some _ (Heap.get?_push_size _ rfl)
  have g3 : (gh5 c d s.heap ta tb).get? (gh2 c d s.heap ta tb).objs.size = some _ := Heap.get?_push_of_some _ (Heap.get?_push_of_some _ (Heap.get?_push_size _ rfl))
  have g2 : (gh5 c d s.heap ta tb).get? (gh1 c s.heap ta).objs.size = some _ := Heap.get?_push_of_some _ (Heap.get?_push_of_some _ (Heap.get?_push_of_some _ (Heap.get?_push_size _ rfl)))
  have g1 : (gh5 c d s.heap ta tb).get? s.heap.objs.size = some _ := Heap.get?_push_of_some _ (Heap.get?_push_of_some _ (Heap.get?_push_of_some _ (Heap.get?_push_of_some _ (Heap.get?_push_size _ rfl))))
  show _ ∧ _
  rw [y2, y3, y4] at g5
  rw [y1, y2] at g3
  rw [y3] at g4
  rw [y1] at g2
  rw [y4]
  exact ⟨⟨_, g5, rfl⟩, q _ g5 g3 g4 (wlk_new g1) (wlk_new g2) y5 fun x o e => Heap.get?_push_of_some _ (Heap.get?_push_of_some _ (Heap.get?_push_of_some _ (Heap.get?_push_of_some _ (Heap.get?_push_of_some _ e))))⟩
end
/-- the rows at a and b, their items in new pairs -/
def SqG (c : Bool) (K : PySem.W.Frag) (H : Hp) (a : Addr) (xs : List V) : Prop := match c with
  | true => SqT K H a xs
  | false => SqL K H a xs
def Itg (c d : Bool) (K : PySem.W.Frag) (a b : Addr) : It :=
  ⟨fun i H => ∃ (xs ys : List V) (x y : V), SqG c K H a xs ∧ SqG d K H b ys ∧ xs[i]? = some x ∧ ys[i]? = some y,
    fun i H v H' => ∃ T x y, v = .ref T ∧ H T = none ∧ H' = upd H T (.tup [x, y]) ∧ (∀ xs, SqG c K H a xs → xs[i]? = some x) ∧ ∀ ys, SqG d K H b ys → ys[i]? = some y,
    fun i H => ∃ xs ys : List V, SqG c K H a xs ∧ SqG d K H b ys ∧ (xs.length ≤ i ∨ ys.length ≤ i)⟩
theorem row_of {X : Cx} {pins : List (Addr × Obj)} {σ : L2.St} {H : Hp} {s : Shared} (I : Inv X pins σ H s) : ∀ {c : Bool} {a : Addr} {xs : List V}, SqG c X.K H a xs → ∃ us : List Value, Vals xs us ∧ Row c s.heap a us.toArray ∧ xs.length ≤ sizeLine
  | true, a, xs, h => by
    obtain ⟨us, rv, p, z⟩ := I.tuple h
    exact ⟨us, rv, p, z⟩
  | false, a, xs, h => by
    obtain ⟨us, rv, p, z⟩ := I.list h
    exact ⟨us, rv, p.isList, z⟩
theorem inj_of {X : Cx} {pins : List (Addr × Obj)} {σ : L2.St} {H : Hp} {s : Shared} (I : Inv X pins σ H s) : ∀ {c : Bool} {a : Addr} {xs ys : List V}, SqG c X.K H a xs → SqG c X.K H a ys → xs = ys
  | true, a, xs, ys, h, k => I.tuple_inj h k
  | false, a, xs, ys, h, k => I.list_inj h k
theorem turn_g {c d : Bool} {P : Program} {w : World} {K : PySem.W.Frag} {elts : List Expr} {kk : Nat} {tpos : Pos} {a b zz ti to j1 j2 : Addr} (D : ZipApart zz ti to j1 j2 a b) :
    Turn P w K (.Tuple elts kk tpos) (Itg c d K a b) [zz, ti, to, j1, j2] zz (fun i g => IsZip g zz ti to .none ∧ IsPair g ti (.ref j1) (.ref j2) ∧ (∃ x y, IsPair g to x y) ∧ Wlk c g j1 a i ∧ Wlk d g j2 b i) where
  mem := by simp
  obj := fun i g st c hc => by
    obtain ⟨q1, q2, ⟨x, y, q3⟩, q4, q5⟩ := st
    have e' : c = zz ∨ c = ti ∨ c = to ∨ c = j1 ∨ c = j2 := by simpa using hc
    rcases e' with q | q | q | q | q
    · rw [q]; exact ⟨_, q1, fun v z => nomatch z⟩
    · rw [q]; exact ⟨_, q2, fun v z => nomatch z⟩
    · rw [q]; exact ⟨_, q3, fun v z => nomatch z⟩
    · rw [q]; exact Wlk.there q4
    · rw [q]; exact Wlk.there q5
  keep := fun i g g' st k => by
    obtain ⟨q1, q2, ⟨x, y, q3⟩, q4, q5⟩ := st
    exact ⟨k zz (by simp) _ q1, k ti (by simp) _ q2, ⟨x, y, k to (by simp) _ q3⟩, q4.at fun o q => k j1 (by simp) o q, q5.at fun o q => k j2 (by simp) o q⟩
  item := by
    intro X hP hw hK hc i pins s σ H E I hf st hg
    subst hP hw hK
    obtain ⟨q1, q2, ⟨x0, y0, q3⟩, q4, q5⟩ := st
    obtain ⟨xs, ys, x, y, hqx, hqy, hx, hy⟩ := hg
    obtain ⟨us, rv, p, _⟩ := row_of I hqx
    obtain ⟨vs, rv2, p2, _⟩ := row_of I hqy
    obtain ⟨u, hu, ru⟩ := rv.get hx
    obtain ⟨v, hv, rv'⟩ := rv2.get hy
    have lz : zz < s.heap.objs.size := Heap.lt_size q1
    refine next_item (c := c) (d := d) D q1 q2 q3 q4 q5 p p2 (u := u) (v := v) (by simpa using hu) (by simpa using hv) fun g c1 c2 c3 c4 c5 c6 c7 => ?_
    refine ⟨_, rfl, wpAny_letOwnedTupleGo_zip (s := { s with heap := g }) c1 fun g' c8 sb => ?_⟩
    have c9 : g'.get? s.heap.objs.size = some { cls := .type "tuple", data := .seq #[u, v] } := (sb.2 _ (Nat.ne_of_gt lz)).trans c5
    have new : ObjOk X.prog X.w (upd H s.heap.objs.size (.tup [x, y])) g' s.heap.objs.size (.tup [x, y]) := ⟨by show 2 ≤ sizeLine; decide, [u, v], .cons ru (.cons rv' .nil), ⟨_, c9, rfl, _, rfl⟩⟩
    have I1 : Inv X pins σ (upd H s.heap.objs.size (.tup [x, y])) { s with heap := g' } :=
      I.turnedNew (t' := s.toks) (ch := [zz, ti, to, j1, j2]) (fun e o hb q => (sb.2 e (fun z => hb (by simp [z]))).trans (c7 e o (fun z => hb (by simp [z])) (fun z => hb (by simp [z])) (fun z => hb (by simp [z])) (fun z => hb (by simp [z])) q)) hf (Nat.le_refl _) new
    refine ⟨.ref s.heap.objs.size, _, I1, rfl, ⟨_, x, y, rfl, I.hok.fresh (Nat.le_refl _), rfl, fun l hl => by rw [inj_of I hl hqx]; exact hx, fun l hl => by rw [inj_of I hl hqy]; exact hy⟩, ⟨c8, ?_, ⟨u, v, ?_⟩, ?_, ?_⟩, fun e hcm => ?_⟩
    · exact (sb.2 _ D.TIz).trans (c7 _ _ D.TIz D.TITO D.TIi1 D.TIi2 q2)
    · exact (sb.2 _ D.TOz).trans c2
    · exact c3.at fun o q => (sb.2 _ D.i1z).trans q
    · exact c4.at fun o q => (sb.2 _ D.i2z).trans q
    · have hlt : e < s.heap.objs.size := by
        have e' : e = zz ∨ e = ti ∨ e = to ∨ e = j1 ∨ e = j2 := by simpa using hcm
        rcases e' with q | q | q | q | q
        · rw [q]; exact lz
        · rw [q]; exact Heap.lt_size q2
        · rw [q]; exact Heap.lt_size q3
        · rw [q]; exact Wlk.lt q4
        · rw [q]; exact Wlk.lt q5
      rw [upd_ne (Nat.ne_of_lt hlt)]
      exact (hf e hcm).1
  done := by
    intro X hP hw hK hc i pins s σ H E I hf st hg
    subst hP hw hK
    obtain ⟨q1, q2, ⟨x0, y0, q3⟩, q4, q5⟩ := st
    obtain ⟨xs, ys, hqx, hqy, hend⟩ := hg
    obtain ⟨us, rv, p, _⟩ := row_of I hqx
    obtain ⟨vs, rv2, p2, _⟩ := row_of I hqy
    have l1 := rv.length
    have l2 := rv2.length
    have fin : us.toArray[i]? = none ∨ vs.toArray[i]? = none := by
      rcases hend with q | q
      · exact .inl (by simp; omega)
      · exact .inr (by simp; omega)
    exact next_end (c := c) (d := d) (I.ok.hd hc) D q1 q2 q3 q4 q5 p p2 fin fun g kp => ⟨rfl, I.turnedL (t' := s.toks) (ch := [zz, ti, to, j1, j2]) (fun e o hb q =>
      kp e o (fun z => hb (by simp [z])) (fun z => hb (by simp [z])) (fun z => hb (by simp [z])) (fun z => hb (by simp [z])) q) hf⟩
  self := fun A i s Q E st h => wpAny_pyIter_zip st.1 h
def iZipG (c d : Bool) (K : PySem.W.Frag) (ta : TA) : TI := fun σ H R => ta σ H fun vs H1 => ∃ a b xs ys, vs = [.ref a, .ref b] ∧ SqG c K H1 a xs ∧ SqG d K H1 b ys ∧ R (Itg c d K a b) H1
theorem pi_zipG (c d : Bool) {X : Cx} {e e2 : Expr} {ta : TA} {p pos tpos : Pos} {elts : List Expr} {kk : Nat} (hg : Gl X "zip") (hm : X.mg "zip" = none) (ha : PA X [e, e2] ta)
    (hs : starEach [e, e2] X.env = (false, eval e X.env) :: starEach [e2] X.env := by rfl) (hpl : (backTo pos (starEach [e2] X.env)).any (·.1) = false := by rfl) :
    PI X (.Tuple elts kk tpos) (.Call (.Name "zip" p) [e, e2] [] pos) (iZipG c d X.K ta) := by
  refine ⟨fun pins s σ H R I h => ?_⟩
  refine Call_ (ld_blt I hg hm PyProof.Rows.boot_zip (PyProof.Rows.callWith_type1 (thn (ha.run pos pins s σ H _ I h) fun ws s1 ⟨vs, H1, I1, rw1, qw⟩ => ?_) hs hpl))
  obtain ⟨a, b, xs, ys, ex, hqx, hqy, q⟩ := qw
  subst ex
  cases rw1 with
  | cons r rr =>
    cases rr with
    | cons r' rr =>
      cases rr
      cases r
      cases r'
      obtain ⟨its, rv, p1, _⟩ := row_of I1 hqx
      obtain ⟨its2, rv2, p2, _⟩ := row_of I1 hqy
      refine call_zipG p1 p2 fun g cz ci co r1 r2 cs kp => wpAny_pyIter_zip cz ?_
      have I2 : Inv X pins σ H1 { s1 with heap := g } := I1.kept (t' := s1.toks) kp
      refine ⟨s1.heap.objs.size + 4, [s1.heap.objs.size + 4, s1.heap.objs.size + 2, s1.heap.objs.size + 3, s1.heap.objs.size, s1.heap.objs.size + 1], _, _, H1, rfl, I2, turn_g (PySem.W.ktu_apart s1.heap.objs.size a b p1.low p2.low), ⟨cz, ci, ⟨_, _, co⟩, r1, r2⟩, fun x hcm => ?_, q⟩
      have hle : s1.heap.objs.size ≤ x := by
        simp only [List.mem_cons, List.not_mem_nil, or_false] at hcm
        rcases hcm with z | z | z | z | z <;> rw [z] <;> omega
      exact I1.fpOk hle (I1.hok.fresh hle)
/-- a loop over such a zip, both of one length -/
theorem for_zipG {c d : Bool} {K : PySem.W.Frag} {a b : Addr} {xs ys : List V} {g : TG} {tb : TS} {D : Ends} {σ : L2.St} {H : Hp} (hl : xs.length = ys.length) (Pv : Nat → L2.St → Hp → Prop) (h0 : Pv 0 σ H) (hq : ∀ i σ H, Pv i σ H → SqG c K H a xs ∧ SqG d K H b ys)
    (hs : ∀ (i : Nat) (x y : V) (T : Addr) (σ : L2.St) (H : Hp), xs[i]? = some x → ys[i]? = some y → Pv i σ H → H T = none → g (.ref T) σ (upd H T (.tup [x, y])) fun σ2 H2 => tb { D with nx := Pv (i + 1), ct := Pv (i + 1), bk := D.nx } σ2 H2) (hd : ∀ σ H, Pv xs.length σ H → D.nx σ H) :
    ∃ W : Nat → Nat → L2.St → Hp → Prop, (∃ m, W 0 m σ H) ∧ ∀ i m σ H, W i m σ H →
      ((Itg c d K a b).stop i H ∧ D.nx σ H) ∨ ((Itg c d K a b).go i H ∧ ∃ N : L2.St → Hp → Prop, (∀ σ' H', N σ' H' → ∃ m', m' < m ∧ W (i + 1) m' σ' H') ∧ ∀ v H', (Itg c d K a b).yld i H v H' → g v σ H' fun σ2 H2 => tb { D with nx := N, ct := N, bk := D.nx } σ2 H2) := by
  refine ⟨fun i m σ H => m = xs.length - i ∧ i ≤ xs.length ∧ Pv i σ H, ⟨xs.length, rfl, Nat.zero_le _, h0⟩, ?_⟩
  rintro i m σ H ⟨rfl, hi, p⟩
  obtain ⟨qx, qy⟩ := hq i σ H p
  rcases Nat.lt_or_ge i xs.length with lt | ge
  · refine .inr ⟨⟨xs, ys, xs[i], ys[i]'(by omega), qx, qy, List.getElem?_eq_getElem lt, List.getElem?_eq_getElem (by omega)⟩, Pv (i + 1), fun σ' H' p' => ⟨xs.length - (i + 1), by omega, rfl, lt, p'⟩, fun v H' hy => ?_⟩
    obtain ⟨T, x', y', rfl, hT, rfl, f1, f2⟩ := hy
    exact hs i x' y' T σ H (f1 xs qx) (f2 ys qy) p hT
  · have e : i = xs.length := by omega
    subst e
    exact .inl ⟨⟨xs, ys, qx, qy, .inl (Nat.le_refl _)⟩, hd σ H p⟩
end Mix

set_option Elab.async false
set_option linter.all false
set_option maxRecDepth 100000
set_option maxHeartbeats 4000000
/-! Part A4: own rule: list(zip(x, y)), each a tuple or a list. -/
namespace Mix
open PySem PySem.Spec PyProof.Rows L2
theorem zip_lenless2 : typeLookup (.type "zip") "__len__" = pure none := am_miss_of_fast (by first | decide +kernel | rfl)
theorem zip_hintless2 : typeLookup (.type "zip") "__length_hint__" = pure none := am_miss_of_fast (by first | decide +kernel | rfl)
section
variable {prog : Program} {w : World} {A : Around} {E : Value → Shared → Prop} {s : Shared}
/-- next, while the pair given out before is there -/
theorem zt_held_item {ca cb : Bool} {zz ti to tt i1 i2 ta tb : Addr} {fl : Bool} {ob : Obj} {m : Nat} {us vs : Array Value} {u v : Value} {Q : Value → Shared → Prop} (D : ZipApart zz ti to i1 i2 ta tb)
    (hz : IsZipHeld s.heap zz ti to tt fl) (ht : s.heap.get? tt = some ob) (hp : IsPair s.heap ti (.ref i1) (.ref i2))
    (j1 : Wlk ca s.heap i1 ta m) (j2 : Wlk cb s.heap i2 tb m) (k1 : Row ca s.heap ta us) (k2 : Row cb s.heap tb vs) (hu : us[m]? = some u) (hv : vs[m]? = some v)
    (next : ∀ g, IsZipHeld g zz ti to tt true → Wlk ca g i1 ta (m + 1) → Wlk cb g i2 tb (m + 1) → IsPair g s.heap.objs.size u v → g.objs.size = s.heap.objs.size + 1 →
      (∀ c o, c ≠ zz → c ≠ i1 → c ≠ i2 → s.heap.get? c = some o → g.get? c = some o) → Q (.ref s.heap.objs.size) { s with heap := g }) :
    wpAny (model prog w) A (Builtin.«zip.__next__» ⟨[.ref zz], []⟩) (fun fin s' => ∃ r, fin = .done (.ret r) ∧ Q r s') E s := by
  show wpAny _ _ (field (.ref zz) 2 >>= _) _ _ _
  refine wpAny_bind (wpAny_field hz rfl (x := .bool false) rfl ?_)
  show wpAny _ _ (field (.ref zz) 3 >>= _) _ _ _
  refine wpAny_bind (wpAny_field hz rfl (x := .ref ti) rfl ?_)
  refine wpAny_bind (wpAny_seqItems hp rfl ?_)
  show wpAny _ _ (Builtin.SmallTypes.ownedTupleIsFree (.ref zz) >>= _) _ _ _
  refine wpAny_bind (wpAny_tupleHeld_zip hz ht fun g1 z1 b1 => ?_)
  simp only [Bool.false_eq_true, if_false]
  refine wpAny_bind ?_
  rw [← Array.forIn_toList]
  simp only [List.forIn_cons, List.forIn_nil]
  refine wpAny_bind (wpAny_bind (wpAny_holding ?_))
  show wpAny _ _ (Builtin.SmallTypes.nextOf (.ref i1) >>= _) _ _ _
  refine wpAny_bind (step_item (s := { s with heap := g1 }) (j1.ext b1.extBut D.i1z) (k1.ext b1.extBut D.l1z) hu fun g2 y1 b2 => wpAny_pure (wpAny_pure ?_))
  refine wpAny_bind (wpAny_bind (wpAny_holding ?_))
  show wpAny _ _ (Builtin.SmallTypes.nextOf (.ref i2) >>= _) _ _ _
  refine wpAny_bind (step_item (s := { s with heap := g2 }) ((j2.ext b1.extBut D.i2z).ext b2.extBut D.i12.symm) ((k2.ext b1.extBut D.l2z).ext b2.extBut D.l2i1) hv fun g3 y2 b3 => wpAny_pure (wpAny_pure (wpAny_pure ?_)))
  show wpAny _ _ (newTuple [u, v] >>= _) _ _ _
  refine wpAny_bind (wpAny_newTuple ?_)
  have sz : g3.objs.size = s.heap.objs.size := by rw [b3.1, b2.1, b1.1]
  have z3 : IsZipHeld g3 zz ti to tt true := b3.extBut _ _ D.i2z.symm (b2.extBut _ _ D.i1z.symm z1)
  have kp : ∀ c o, c ≠ zz → c ≠ i1 → c ≠ i2 → s.heap.get? c = some o → g3.get? c = some o := fun c o n1 n2 n3 q => b3.extBut _ _ n3 (b2.extBut _ _ n2 (b1.extBut _ _ n1 q))
  refine wpAny_pure ⟨_, rfl, ?_⟩
  show Q (.ref g3.objs.size) _
  have new : IsPair (g3.push { cls := .type "tuple", data := .seq #[u, v] }) g3.objs.size u v := Heap.get?_push_size _ rfl
  have s4 : (g3.push { cls := .type "tuple", data := .seq #[u, v] }).objs.size = g3.objs.size + 1 := Heap.size_push ..
  rw [sz] at new s4 ⊢
  exact next _ (Heap.get?_push_of_some _ z3) ((y1.ext b3.extBut D.i12).at fun o q => Heap.get?_push_of_some _ q) (y2.at fun o q => Heap.get?_push_of_some _ q) new s4 fun c o n1 n2 n3 q => Heap.get?_push_of_some _ (kp c o n1 n2 n3 q)
theorem zt_held_end {ca cb : Bool} {zz ti to tt i1 i2 ta tb : Addr} {fl : Bool} {ob : Obj} {m : Nat} {us vs : Array Value} {Q : Fin → Shared → Prop} (hh : A.handled = none) (D : ZipApart zz ti to i1 i2 ta tb)
    (hz : IsZipHeld s.heap zz ti to tt fl) (ht : s.heap.get? tt = some ob) (hp : IsPair s.heap ti (.ref i1) (.ref i2))
    (j1 : Wlk ca s.heap i1 ta m) (j2 : Wlk cb s.heap i2 tb m) (k1 : Row ca s.heap ta us) (k2 : Row cb s.heap tb vs) (fin : us[m]? = none ∨ vs[m]? = none)
    (stop : ∀ g e, (∀ c o, c ≠ zz → c ≠ i1 → c ≠ i2 → s.heap.get? c = some o → g.get? c = some o) → (∃ o, g.get? e = some o ∧ o.cls = .type "StopIteration") → E (.ref e) { s with heap := g }) :
    wpAny (model prog w) A (Builtin.«zip.__next__» ⟨[.ref zz], []⟩) Q E s := by
  show wpAny _ _ (field (.ref zz) 2 >>= _) _ _ _
  refine wpAny_bind (wpAny_field hz rfl (x := .bool false) rfl ?_)
  show wpAny _ _ (field (.ref zz) 3 >>= _) _ _ _
  refine wpAny_bind (wpAny_field hz rfl (x := .ref ti) rfl ?_)
  refine wpAny_bind (wpAny_seqItems hp rfl ?_)
  show wpAny _ _ (Builtin.SmallTypes.ownedTupleIsFree (.ref zz) >>= _) _ _ _
  refine wpAny_bind (wpAny_tupleHeld_zip hz ht fun g1 z1 b1 => ?_)
  simp only [Bool.false_eq_true, if_false]
  refine wpAny_bind ?_
  rw [← Array.forIn_toList]
  simp only [List.forIn_cons, List.forIn_nil]
  refine wpAny_bind (wpAny_bind (wpAny_holding ?_))
  show wpAny _ _ (Builtin.SmallTypes.nextOf (.ref i1) >>= _) _ _ _
  have fits : A.handled = none := hh
  cases hu : us[m]? with
  | none =>
    refine wpAny_bind (step_end (s := { s with heap := g1 }) hh (j1.ext b1.extBut D.i1z) (k1.ext b1.extBut D.l1z) hu fun g2 e b2 he => ?_)
    exact stop g2 e (fun c o n1 n2 _ q => b2 _ _ n2 (b1.extBut _ _ n1 q)) he
  | some u =>
    have hv : vs[m]? = none := by
      rcases fin with q | q
      · rw [hu] at q; cases q
      · exact q
    refine wpAny_bind (step_item (s := { s with heap := g1 }) (j1.ext b1.extBut D.i1z) (k1.ext b1.extBut D.l1z) hu fun g2 y1 b2 => wpAny_pure (wpAny_pure ?_))
    refine wpAny_bind (wpAny_bind (wpAny_holding ?_))
    show wpAny _ _ (Builtin.SmallTypes.nextOf (.ref i2) >>= _) _ _ _
    refine wpAny_bind (step_end (s := { s with heap := g2 }) hh ((j2.ext b1.extBut D.i2z).ext b2.extBut D.i12.symm) ((k2.ext b1.extBut D.l2z).ext b2.extBut D.l2i1) hv fun g3 e b3 he => ?_)
    exact stop g3 e (fun c o n1 n2 n3 q => b3 _ _ n3 (b2.extBut _ _ n2 (b1.extBut _ _ n1 q))) he
/-- a zip of two tuples before its turn m; the pair given out last is alive -/
structure ZtAt (ca cb : Bool) (h : Heap) (zz ti to i1 i2 ta tb : Addr) (m : Nat) : Prop where
  pair : IsPair h ti (.ref i1) (.ref i2)
  it1 : Wlk ca h i1 ta m
  it2 : Wlk cb h i2 tb m
  out : (IsZip h zz ti to .none ∧ ∃ a b, IsPair h to a b) ∨ ∃ tt fl o, IsZipHeld h zz ti to tt fl ∧ h.get? tt = some o ∧ tt ≠ zz ∧ tt ≠ to ∧ tt ≠ i1 ∧ tt ≠ i2
theorem ZtAt.type {ca cb : Bool} {zz ti to i1 i2 ta tb : Addr} {m : Nat} {s : Shared} (z : ZtAt ca cb s.heap zz ti to i1 i2 ta tb m) : s.TypeIs (.ref zz) "zip" := by
  rcases z.out with ⟨q, _⟩ | ⟨_, _, _, q, _⟩
  · exact ⟨_, q, rfl⟩
  · exact ⟨_, q, rfl⟩
theorem ZtAt.keep {h g : Heap} {ca cb : Bool} {zz ti to i1 i2 ta tb S : Addr} {m : Nat} (z : ZtAt ca cb h zz ti to i1 i2 ta tb m) (hS : ∀ c, c = zz ∨ c = ti ∨ c = to ∨ c = i1 ∨ c = i2 → c ≠ S) (nt : ∀ o, h.get? S = some o → o.cls = .type "list")
    (ha : ∀ tt o, h.get? tt = some o → ∃ o', g.get? tt = some o') (k : ∀ c o, c ≠ S → h.get? c = some o → g.get? c = some o) : ZtAt ca cb g zz ti to i1 i2 ta tb m := by
  refine ⟨k _ _ (hS _ (.inr (.inl rfl))) z.pair, z.it1.at fun o q => k _ o (hS _ (.inr (.inr (.inr (.inl rfl))))) q, z.it2.at fun o q => k _ o (hS _ (.inr (.inr (.inr (.inr rfl))))) q, ?_⟩
  rcases z.out with ⟨q, a, b, p⟩ | ⟨tt, fl, o, q, e, n⟩
  · exact .inl ⟨k _ _ (hS _ (.inl rfl)) q, a, b, k _ _ (hS _ (.inr (.inr (.inl rfl)))) p⟩
  · obtain ⟨o', e'⟩ := ha _ _ e
    exact .inr ⟨tt, fl, o', k _ _ (hS _ (.inl rfl)) q, e', n⟩
/-- one more pair -/
theorem zt_item {ca cb : Bool} {zz ti to i1 i2 ta tb : Addr} {m : Nat} {us vs : Array Value} {u v : Value} {Q : Option Value → Shared → Prop} (D : ZipApart zz ti to i1 i2 ta tb) (z : ZtAt ca cb s.heap zz ti to i1 i2 ta tb m)
    (lt : ∀ c, c = zz ∨ c = to ∨ c = i1 ∨ c = i2 → c < s.heap.objs.size) (k1 : Row ca s.heap ta us) (k2 : Row cb s.heap tb vs) (hu : us[m]? = some u) (hv : vs[m]? = some v)
    (next : ∀ g, ZtAt ca cb g zz ti to i1 i2 ta tb (m + 1) → IsPair g s.heap.objs.size u v → g.objs.size = s.heap.objs.size + 1 →
      (∀ c o, c ≠ zz → c ≠ to → c ≠ i1 → c ≠ i2 → s.heap.get? c = some o → g.get? c = some o) → Q (some (.ref s.heap.objs.size)) { s with heap := g }) :
    wpAny (model prog w) A (pyNext (.ref zz)) Q E s := by
  have nn : ∀ c, c = zz ∨ c = to ∨ c = i1 ∨ c = i2 → s.heap.objs.size ≠ c := fun c q => Nat.ne_of_gt (lt c q)
  rcases z.out with ⟨hz, a, b, ho⟩ | ⟨tt, fl, o, hz, e, n1, n2, n3, n4⟩
  · exact next_item D hz z.pair ho z.it1 z.it2 k1 k2 hu hv fun g c1 c2 c3 c4 c5 c6 c7 =>
      next g ⟨c7 _ _ D.TIz D.TITO D.TIi1 D.TIi2 z.pair, c3, c4, .inr ⟨_, false, _, c1, c5, nn _ (.inl rfl), nn _ (.inr (.inl rfl)), nn _ (.inr (.inr (.inl rfl))), nn _ (.inr (.inr (.inr rfl)))⟩⟩ c5 c6 c7
  · have hT : s.TypeIs (.ref zz) "zip" := ⟨_, hz, rfl⟩
    unfold pyNext
    refine wpAny_bind (wpAny_attempt (wpAny_callSpecial?_slot (name := Str.ofString "__next__") hT F.slot_zip_next (wpAny_call_entry F.slot_zip_next hT F.entry_zip_next ?_ (F.args_zip_next_1 _))))
    refine zt_held_item D hz e z.pair z.it1 z.it2 k1 k2 hu hv fun g c1 c2 c3 c4 c5 c6 => wpAny_pure ?_
    exact next g ⟨c6 _ _ D.TIz D.TIi1 D.TIi2 z.pair, c2, c3, .inr ⟨tt, true, o, c1, c6 _ _ n1 n3 n4 e, n1, n2, n3, n4⟩⟩ c4 c5 fun c o m1 _ m2 m3 q => c6 c o m1 m2 m3 q
theorem zt_end {ca cb : Bool} {zz ti to i1 i2 ta tb : Addr} {m : Nat} {us vs : Array Value} {Q : Option Value → Shared → Prop} (hh : A.handled = none) (D : ZipApart zz ti to i1 i2 ta tb) (z : ZtAt ca cb s.heap zz ti to i1 i2 ta tb m)
    (k1 : Row ca s.heap ta us) (k2 : Row cb s.heap tb vs) (fin : us[m]? = none ∨ vs[m]? = none)
    (next : ∀ g, (∀ c o, c ≠ zz → c ≠ to → c ≠ i1 → c ≠ i2 → s.heap.get? c = some o → g.get? c = some o) → Q none { s with heap := g }) : wpAny (model prog w) A (pyNext (.ref zz)) Q E s := by
  rcases z.out with ⟨hz, a, b, ho⟩ | ⟨tt, fl, o, hz, e, n1, n2, n3, n4⟩
  · exact next_end hh D hz z.pair ho z.it1 z.it2 k1 k2 fin next
  · have hT : s.TypeIs (.ref zz) "zip" := ⟨_, hz, rfl⟩
    unfold pyNext
    refine wpAny_bind (wpAny_attempt (wpAny_callSpecial?_slot (name := Str.ofString "__next__") hT F.slot_zip_next (wpAny_call_entry F.slot_zip_next hT F.entry_zip_next ?_ (F.args_zip_next_1 _))))
    refine zt_held_end hh D hz e z.pair z.it1 z.it2 k1 k2 fin fun g er kp he => ?_
    obtain ⟨oe, h1, h2⟩ := he
    refine wpAny_bind (wpAny_isInstance (T := "StopIteration") (b := true) ⟨oe, h1, h2⟩ isSubtype_stop ?_)
    exact wpAny_pure (next _ fun c o m1 _ m2 m3 q => kp c o m1 m2 m3 q)
end
/-- the addresses bs hold the first pairs, all above S -/
structure ZtG (us vs : Array Value) (S : Addr) (h : Heap) (bs : List Addr) : Prop where
  rise : bs.Pairwise (· < ·)
  above : ∀ c ∈ bs, S < c
  pairs : ∀ (j : Nat) (c : Addr), bs[j]? = some c → ∃ u v, us[j]? = some u ∧ vs[j]? = some v ∧ IsPair h c u v
theorem ZtG.lt {us vs : Array Value} {S : Addr} {h : Heap} {bs : List Addr} (z : ZtG us vs S h bs) {c : Addr} (hc : c ∈ bs) : c < h.objs.size := by
  obtain ⟨j, hj⟩ := List.mem_iff_getElem?.mp hc
  obtain ⟨_, _, _, _, e⟩ := z.pairs j c hj
  exact Heap.lt_size e
section
variable {prog : Program} {w : World} {A : Around} {s : Shared} {R : Result → Shared → Prop} {us vs : Array Value} {ca cb : Bool} {zz ti to i1 i2 ta tb S : Addr} {n : Nat}
theorem zt_loop (hh : A.handled = none) (D : ZipApart zz ti to i1 i2 ta tb) (low : ∀ c, c = zz ∨ c = ti ∨ c = to ∨ c = i1 ∨ c = i2 ∨ c = ta ∨ c = tb → c < S) (en : us.size = n) (en2 : vs.size = n) (hn : n ≤ sizeLine) (res : Value) {h0 : Heap}
    (hR : ∀ g tk acc c bs, (∀ b o, b ≠ S → b ≠ zz → b ≠ to → b ≠ i1 → b ≠ i2 → h0.get? b = some o → g.get? b = some o) → g.get? S = some { cls := .type "list", dict := none, data := .seq acc c, slots := #[] } → bs.length = n → ZtG us vs S g bs →
      acc.toList = bs.map Value.ref → R (.ok (.ret res)) { s with heap := g, toks := tk }) :
    ∀ (k i : Nat) (h : Heap) (tk c : Nat) (acc : Array Value) (bs : List Addr), n - i = k → i ≤ n → ZtAt ca cb h zz ti to i1 i2 ta tb i → Row ca h ta us → Row cb h tb vs →
      (∀ b o, b ≠ S → b ≠ zz → b ≠ to → b ≠ i1 → b ≠ i2 → h0.get? b = some o → h.get? b = some o) →
      h.get? S = some { cls := .type "list", dict := none, data := .seq acc c, slots := #[] } → acc.toList = bs.map Value.ref → bs.length = i → ZtG us vs S h bs →
      codeAny (model prog w) A (.builtin "list.extend.loop" ⟨[.ref S, .ref zz, res], []⟩) R { s with heap := h, toks := tk } := by
  have nS : ∀ c, c = zz ∨ c = ti ∨ c = to ∨ c = i1 ∨ c = i2 ∨ c = ta ∨ c = tb → c ≠ S := fun c q => Nat.ne_of_lt (low c q)
  have nzz := nS zz (.inl rfl)
  have nti := nS ti (.inr (.inl rfl))
  have nto := nS to (.inr (.inr (.inl rfl)))
  have n1 := nS i1 (.inr (.inr (.inr (.inl rfl))))
  have n2 := nS i2 (.inr (.inr (.inr (.inr (.inl rfl)))))
  have nta := nS ta (.inr (.inr (.inr (.inr (.inr (.inl rfl))))))
  have ntb := nS tb (.inr (.inr (.inr (.inr (.inr (.inr rfl))))))
  have far : ∀ c, S < c → c ≠ zz ∧ c ≠ to ∧ c ≠ i1 ∧ c ≠ i2 := fun c hc =>
    ⟨Nat.ne_of_gt (Nat.lt_trans (low _ (.inl rfl)) hc), Nat.ne_of_gt (Nat.lt_trans (low _ (.inr (.inr (.inl rfl)))) hc), Nat.ne_of_gt (Nat.lt_trans (low _ (.inr (.inr (.inr (.inl rfl))))) hc), Nat.ne_of_gt (Nat.lt_trans (low _ (.inr (.inr (.inr (.inr (.inl rfl)))))) hc)⟩
  intro k
  induction k with
  | zero =>
    intro i h tk c acc bs hk hi hst ka kb hkeep hS hacc hbl hG
    have e : i = n := by omega
    refine codeAny_builtin PySem.F.entry_extend_loop ?_
    rw [Around.under_plainId PySem.F.plain_extend_loop _]
    show wpAny _ A.in1 (pyNext (.ref zz) >>= _) _ _ _
    refine wpAny_bind (zt_end (s := { s with heap := h, toks := tk }) (A := A.in1) hh D hst ka kb (.inl (by rw [Array.getElem?_eq_none]; omega)) fun g kp => ?_)
    refine wpAny_pure (hR g tk acc c bs (fun b o m1 m2 m3 m4 m5 q => kp b o m2 m3 m4 m5 (hkeep b o m1 m2 m3 m4 m5 q)) (kp S _ nzz.symm nto.symm n1.symm n2.symm hS) (by omega) ⟨hG.rise, hG.above, fun j c hj => ?_⟩ hacc)
    obtain ⟨u, v, e1, e2, e3⟩ := hG.pairs j c hj
    obtain ⟨f1, f2, f3, f4⟩ := far c (hG.above c (List.mem_of_getElem? hj))
    exact ⟨u, v, e1, e2, kp c _ f1 f2 f3 f4 e3⟩
  | succ k ih =>
    intro i h tk c acc bs hk hi hst ka kb hkeep hS hacc hbl hG
    have hlt : i < n := by omega
    have hsz : acc.size = i := by rw [← Array.length_toList, hacc, List.length_map, hbl]
    have hSl : S < h.objs.size := Heap.lt_size hS
    refine codeAny_builtin PySem.F.entry_extend_loop ?_
    rw [Around.under_plainId PySem.F.plain_extend_loop _]
    show wpAny _ A.in1 (pyNext (.ref zz) >>= _) _ _ _
    have hu : us[i]? = some us[i] := Array.getElem?_eq_getElem (by omega)
    have hv : vs[i]? = some vs[i] := Array.getElem?_eq_getElem (by omega)
    refine wpAny_bind (zt_item (s := { s with heap := h, toks := tk }) (A := A.in1) D hst (fun c q => Nat.lt_trans (low c (by rcases q with q | q | q | q <;> simp [q])) hSl) ka kb hu hv fun g zg new gsz kp => ?_)
    dsimp only at new gsz kp ⊢
    have gS := kp S _ nzz.symm nto.symm n1.symm n2.symm hS
    have up : ∀ b o, b ≠ S → g.get? b = some o → (g.update S (Obj.mapSeq (·.push (Value.ref h.objs.size)))).get? b = some o := fun b o hb q => (Heap.get?_update_other _ _ (Ne.symm hb)).trans q
    have dif : ∀ c, c < S ∨ S < c → c ≠ S := fun c q => by rcases q with q | q; exact Nat.ne_of_lt q; exact Nat.ne_of_gt q
    show wpAny _ A.in1 (updateSeq S (·.push (Value.ref h.objs.size)) >>= _) _ _ _
    refine wpAny_bind ?_
    refine wpAny_updateSeq gS rfl (wpAny_pure ⟨plainId_quiet PySem.F.plain_extend_loop _, ih (i + 1) _ tk _ (acc.push (Value.ref h.objs.size)) (bs ++ [h.objs.size]) (by omega) hlt ?_ (ka.up fun o q => up ta o nta (kp ta o D.l1z D.l1TO D.l1i1 D.l1i2 q)) (kb.up fun o q => up tb o ntb (kp tb o D.l2z D.l2TO D.l2i1 D.l2i2 q))
      (fun b o m1 m2 m3 m4 m5 q => up b o m1 (kp b o m2 m3 m4 m5 (hkeep b o m1 m2 m3 m4 m5 q))) (Heap.get?_update_self _ gS rfl) (by rw [Array.toList_push, hacc, List.map_append]; rfl) (by rw [List.length_append, hbl]; rfl) ⟨?_, ?_, ?_⟩⟩) (by rw [hsz]; omega) (by show (acc.push _).size ≤ _; rw [Array.size_push, hsz]; omega)
    · refine ZtAt.keep (S := S) zg (fun c q => nS c (by rcases q with q | q | q | q | q <;> simp [q])) (fun o q => by rw [gS] at q; cases q; rfl) (fun tt o q => ?_) up
      by_cases e : tt = S
      · rw [e]; exact ⟨_, Heap.get?_update_self _ gS rfl⟩
      · exact ⟨o, up tt o e q⟩
    · refine List.pairwise_append.mpr ⟨hG.rise, List.pairwise_singleton _ _, fun a ha b hb => ?_⟩
      rw [List.mem_singleton.mp hb]
      exact hG.lt ha
    · intro a ha
      rcases List.mem_append.mp ha with q | q
      · exact hG.above a q
      · rw [List.mem_singleton.mp q]; exact hSl
    · intro j b hj
      rcases Nat.lt_trichotomy j bs.length with q | q | q
      · rw [List.getElem?_append_left q] at hj
        obtain ⟨u, v, e1, e2, e3⟩ := hG.pairs j b hj
        have hb := hG.above b (List.mem_of_getElem? hj)
        obtain ⟨f1, f2, f3, f4⟩ := far b hb
        exact ⟨u, v, e1, e2, up b _ (Nat.ne_of_gt hb) (kp b _ f1 f2 f3 f4 e3)⟩
      · subst q
        have e : h.objs.size = b := by simpa using hj
        subst e
        subst hbl
        exact ⟨_, _, hu, hv, up _ _ (Nat.ne_of_gt hSl) new⟩
      · have none : (bs ++ [h.objs.size])[j]? = none := List.getElem?_eq_none (by rw [List.length_append, List.length_singleton]; omega)
        rw [none] at hj; cases hj
theorem zt_extend (hh : A.handled = none) (D : ZipApart zz ti to i1 i2 ta tb) (low : ∀ c, c = zz ∨ c = ti ∨ c = to ∨ c = i1 ∨ c = i2 ∨ c = ta ∨ c = tb → c < S) (en : us.size = n) (en2 : vs.size = n) (hn : n ≤ sizeLine) (res : Value) (c0 : Nat)
    (hst : ZtAt ca cb s.heap zz ti to i1 i2 ta tb 0) (hz0 : IsZip s.heap zz ti to .none) (ka : Row ca s.heap ta us) (kb : Row cb s.heap tb vs) (hS : s.heap.get? S = some { cls := .type "list", data := .seq #[] c0 })
    (hR : ∀ g tk acc c bs, (∀ b o, b ≠ S → b ≠ zz → b ≠ to → b ≠ i1 → b ≠ i2 → s.heap.get? b = some o → g.get? b = some o) → g.get? S = some { cls := .type "list", dict := none, data := .seq acc c, slots := #[] } → bs.length = n → ZtG us vs S g bs →
      acc.toList = bs.map Value.ref → R (.ok (.ret res)) { s with heap := g, toks := tk }) :
    wpAny (model prog w) A.in1 (Builtin.List.listExtendWith (.ref S) (.ref zz) res)
      (fun fin s' => match fin with | .done f => R (.ok f) s' | .again c' => c'.quiet = true ∧ codeAny (model prog w) A c' R s') (fun e s' => R (.error e) s') s := by
  have hT : s.TypeIs (.ref zz) "zip" := hst.type
  have hne : S ≠ zz := Ne.symm (Nat.ne_of_lt (low zz (.inl rfl)))
  unfold Builtin.List.listExtendWith
  refine wpAny_bind (wpAny_typeOf hT ?_)
  have q1 : Builtin.List.listSameRef (.ref S) (.ref zz) = false := by simp [Builtin.List.listSameRef, hne]
  have q2 : (Value.type "zip" == Value.type "list") = false := by decide
  have q3 : (Value.type "zip" == Value.type "tuple") = false := by decide
  simp only [q1, q2, q3, Bool.or_false, Bool.false_eq_true, if_false]
  refine wpAny_bind (wpAny_pyIter_zip hz0 ?_)
  refine wpAny_bind (wpAny_holding ?_)
  unfold Builtin.List.listLengthHint
  refine wpAny_bind (wpAny_specialOf hT zip_lenless2 ?_)
  show wpAny _ A.in1 (specialOf (Value.ref zz) (Str.ofString "__length_hint__") >>= _) _ _ _
  refine wpAny_bind (wpAny_specialOf hT zip_hintless2 ?_)
  refine wpAny_pure ?_
  show wpAny _ A.in1 (rule "list.extend.makes-room" >>= fun _ => Builtin.List.listTouch (.ref S) >>= fun _ => again (.builtin "list.extend.loop" ⟨[.ref S, .ref zz, res], []⟩)) _ _ _
  refine wpAny_bind (wpAny_rule ?_)
  refine wpAny_bind ?_
  show wpAny _ A.in1 (updateSeq S (·.push .none) >>= fun _ => updateSeq S (·.pop)) _ _ _
  refine wpAny_bind (wpAny_updateSeq hS rfl ?_)
  have hS2 := Heap.get?_update_self (Obj.mapSeq (·.push Value.none)) hS rfl
  refine wpAny_updateSeq (hz := by seq_fits) hS2 rfl ?_
  have hS3 := Heap.get?_update_self (Obj.mapSeq (·.pop)) hS2 rfl
  have off : ∀ b o, b ≠ S → s.heap.get? b = some o → ((s.heap.update S (Obj.mapSeq (·.push Value.none))).update S (Obj.mapSeq (·.pop))).get? b = some o :=
    fun b o hb q => (Heap.get?_update_other _ _ (Ne.symm hb)).trans ((Heap.get?_update_other _ _ (Ne.symm hb)).trans q)
  refine wpAny_pure ⟨plainId_quiet PySem.F.plain_extend_loop _, zt_loop (s := s) (h0 := s.heap) hh D low en en2 hn res hR n 0 _ _ _ #[] [] (Nat.sub_zero _) (Nat.zero_le _) ?_ (ka.up fun o q => off ta o (Nat.ne_of_lt (low ta (by simp))) q) (kb.up fun o q => off tb o (Nat.ne_of_lt (low tb (by simp))) q)
    (fun b o m1 _ _ _ _ q => off b o m1 q) hS3 rfl rfl ⟨List.Pairwise.nil, (fun _ q => nomatch q), (fun j a hj => by simp at hj)⟩⟩
  refine ZtAt.keep (S := S) hst (fun c q => Nat.ne_of_lt (low c (by rcases q with q | q | q | q | q <;> simp [q]))) (fun o q => by rw [hS] at q; cases q; rfl) (fun tt o q => ?_) off
  by_cases e : tt = S
  · rw [e]; exact ⟨_, hS3⟩
  · exact ⟨o, off tt o e q⟩
end
section
variable {prog : Program} {w : World} {A : Around} {E : Value → Shared → Prop} {s : Shared} {us vs : Array Value} {ca cb : Bool} {zz ti to i1 i2 ta tb : Addr} {n : Nat} {R : Result → Shared → Prop}
theorem zt_call {Q : Value → Shared → Prop} (hh : A.handled = none) (D : ZipApart zz ti to i1 i2 ta tb) (low : ∀ c, c = zz ∨ c = ti ∨ c = to ∨ c = i1 ∨ c = i2 ∨ c = ta ∨ c = tb → c < s.heap.objs.size) (en : us.size = n) (en2 : vs.size = n) (hn : n ≤ sizeLine)
    (hp : IsPair s.heap ti (.ref i1) (.ref i2)) (j1 : Wlk ca s.heap i1 ta 0) (j2 : Wlk cb s.heap i2 tb 0) (hz0 : IsZip s.heap zz ti to .none) {a b : Value} (ho : IsPair s.heap to a b) (ka : Row ca s.heap ta us) (kb : Row cb s.heap tb vs)
    (hQ : ∀ g tk acc c bs, (∀ b o, b ≠ zz → b ≠ to → b ≠ i1 → b ≠ i2 → s.heap.get? b = some o → g.get? b = some o) → g.get? s.heap.objs.size = some { cls := .type "list", dict := none, data := .seq acc c, slots := #[] } → bs.length = n → ZtG us vs s.heap.objs.size g bs →
      acc.toList = bs.map Value.ref → Q (.ref s.heap.objs.size) { s with heap := g, toks := tk }) :
    wpAny (model prog w) A (call (.type "list") [.ref zz]) Q E s := by
  refine callType_codes (Q₁ := fun obj s₁ => obj = .ref s.heap.objs.size ∧ s₁ = { s with heap := s.heap.push { cls := .type "list", data := .seq #[] } }) PySem.F.called_list (PySem.F.typeCall_list_1 _) PySem.F.entry_list_init (code_list_new _ ⟨rfl, rfl⟩) fun obj s1 q => ?_
  obtain ⟨rfl, rfl⟩ := q
  have up : ∀ c o, s.heap.get? c = some o → (s.heap.push { cls := .type "list", data := .seq #[] }).get? c = some o := fun c o q => Heap.get?_push_of_some _ q
  have hS : (s.heap.push { cls := .type "list", data := .seq #[] }).get? s.heap.objs.size = some { cls := .type "list", data := .seq #[] } := Heap.get?_push_size _ rfl
  refine ⟨⟨_, hS, rfl⟩, PySem.F.args_list_init_2 _ _, ?_⟩
  show wpAny _ _ (do let old ← Builtin.List.listItems (.ref s.heap.objs.size); Builtin.List.listUpdate (.ref s.heap.objs.size) (fun _ => #[]); letGo old.toList.reverse; Builtin.List.listExtendWith (.ref s.heap.objs.size) (.ref zz) .none) _ _ _
  refine wpAny_bind ?_
  unfold Builtin.List.listItems
  refine wpAny_bind (wpAny_seqItems hS rfl (wpAny_pure ?_))
  show wpAny _ _ (updateSeq s.heap.objs.size (fun _ => #[]) >>= fun _ => letGo (#[] : Array Value).toList.reverse >>= fun _ => Builtin.List.listExtendWith (.ref s.heap.objs.size) (.ref zz) .none) _ _ _
  refine wpAny_bind (wpAny_updateSeq hS rfl ?_)
  have hS2 := Heap.get?_update_self (Obj.mapSeq (fun _ => (#[] : Array Value))) hS rfl
  have off : ∀ b o, b ≠ s.heap.objs.size → s.heap.get? b = some o → ((s.heap.push { cls := .type "list", data := .seq #[] }).update s.heap.objs.size (Obj.mapSeq (fun _ => (#[] : Array Value)))).get? b = some o :=
    fun b o hb q => (Heap.get?_update_other _ _ (Ne.symm hb)).trans (up b o q)
  have off2 : ∀ b o, s.heap.get? b = some o → ((s.heap.push { cls := .type "list", data := .seq #[] }).update s.heap.objs.size (Obj.mapSeq (fun _ => (#[] : Array Value)))).get? b = some o := fun b o q => off b o (Nat.ne_of_lt (Heap.lt_size q)) q
  refine wpAny_bind (wpAny_letGo ?_)
  refine zt_extend (A := A.in1) hh D low en en2 hn .none _ ⟨off2 _ _ hp, j1.at fun o q => off2 _ o q, j2.at fun o q => off2 _ o q, .inl ⟨off2 _ _ hz0, a, b, off2 _ _ ho⟩⟩ (off2 _ _ hz0) (ka.up fun o q => off2 _ o q) (kb.up fun o q => off2 _ o q) hS2 fun g tk acc c bs kp gS hl hG hacc => ?_
  exact ⟨rfl, hQ g tk acc c bs (fun b o m2 m3 m4 m5 q => kp b o (Nat.ne_of_lt (Heap.lt_size q)) m2 m3 m4 m5 (off2 b o q)) gS hl hG hacc⟩
end
/-- pairs tracked at their addresses -/
def putP : Hp → List Addr → List (V × V) → Hp
  | H, a :: as, p :: ps => putP (upd H a (.tup [p.1, p.2])) as ps
  | H, _, _ => H
theorem putP_off {b : Addr} : ∀ (as : List Addr) (ps : List (V × V)) (H : Hp), b ∉ as → putP H as ps b = H b
  | [], _, _, _ => rfl
  | _ :: _, [], _, _ => rfl
  | a :: as, p :: ps, H, h => (putP_off as ps _ fun z => h (List.mem_cons_of_mem _ z)).trans (upd_ne fun z => h (z ▸ List.mem_cons_self))
theorem putP_at : ∀ (as : List Addr) (ps : List (V × V)) (H : Hp), as.Nodup → ∀ (j : Nat) (a : Addr) (p : V × V), as[j]? = some a → ps[j]? = some p → putP H as ps a = some (.tup [p.1, p.2])
  | [], _, _, _, _, _, _, h, _ => by simp at h
  | _ :: _, [], _, _, _, _, _, _, h => by simp at h
  | a :: as, p :: ps, H, hn, 0, a', p', h1, h2 => by
    have e1 : a = a' := Option.some.inj h1
    have e2 : p = p' := Option.some.inj h2
    subst e1 e2
    exact (putP_off as ps _ (List.nodup_cons.mp hn).1).trans upd_same
  | a :: as, p :: ps, H, hn, j + 1, a', p', h1, h2 => putP_at as ps _ (List.nodup_cons.mp hn).2 j a' p' h1 h2
/-- list(zip(t, u)): a new list of new pairs -/
def tListZip (ca cb : Bool) (K : PySem.W.Frag) (ta : TA) : TE := fun σ H Q => ta σ H fun vs H1 => ∃ a b xs ys, vs = [.ref a, .ref b] ∧ SqG ca K H1 a xs ∧ SqG cb K H1 b ys ∧ xs.length = ys.length ∧
  ∀ (H' : Hp) (p : Addr) (bs : List Addr), Same H1 H' → H1 p = none → (∀ t ∈ bs, H1 t = none) → H' p = some (.lst (bs.map V.ref)) → bs.length = xs.length → (∀ (j : Nat) (t : Addr), bs[j]? = some t → ∃ x y, xs[j]? = some x ∧ ys[j]? = some y ∧ H' t = some (.tup [x, y])) → Q (.ref p) H'
section
variable {X : Cx} {e e2 : Expr} {ta : TA} {p p2 pos pos2 : Pos}
theorem pe_listZip (ca cb : Bool) (hc : X.calm = true) (hg : Gl X "list") (hm : X.mg "list" = none) (hv : bootBuiltins "list" = some (.type "list")) (hg2 : Gl X "zip") (hm2 : X.mg "zip" = none) (ha : PA X [e, e2] ta)
    (hs : starEach [.Call (.Name "zip" p2) [e, e2] [] pos2] X.env = (false, eval (.Call (.Name "zip" p2) [e, e2] [] pos2) X.env) :: starEach [] X.env := by rfl)
    (hs2 : starEach [e, e2] X.env = (false, eval e X.env) :: starEach [e2] X.env := by rfl) (hpl : (backTo pos2 (starEach [e2] X.env)).any (·.1) = false := by rfl) :
    PE X (.Call (.Name "list" p) [.Call (.Name "zip" p2) [e, e2] [] pos2] [] pos) (tListZip ca cb X.K ta) := by
  refine ⟨fun pins s σ H Q I hq => ?_⟩
  refine wpAny_Call_Name_kw (ld_blt I hg hm hv ?_)
  refine PyProof.Rows.callWith_type1 ?_ hs rfl
  rw [hs]
  show wpAny _ _ (spliced ((false, eval (.Call (.Name "zip" p2) [e, e2] [] pos2) X.env) :: backTo pos (starEach [] X.env))) _ _ s
  refine Calls.spliced_cons ?_
  refine Call_ (ld_blt I hg2 hm2 PyProof.Rows.boot_zip (PyProof.Rows.callWith_type1 (thn (ha.run pos2 pins s σ H _ I hq) fun vals s1 ⟨vs, H1, I1, r1, q1⟩ => ?_) hs2 hpl))
  obtain ⟨a, b, xs, ys, ex, hx, hy, hl, q⟩ := q1
  subst ex
  obtain ⟨its, rv, t1, z1⟩ := row_of I1 hx
  obtain ⟨its2, rv2, t2, z2⟩ := row_of I1 hy
  have l1 := rv.length
  have l2 := rv2.length
  cases r1 with
  | cons r rr =>
    cases rr with
    | cons r' rr =>
      cases rr
      cases r
      cases r'
      refine call_zipG t1 t2 fun g hz hTI hTO h1 h2 gsz hk => ?_
      refine Calls.spliced_nil ?_
      have I2 : Inv X pins σ H1 { s1 with heap := g } := I1.kept (t' := s1.toks) hk
      have la := t1.low
      have lb := t2.low
      refine zt_call (s := { s1 with heap := g }) (us := its.toArray) (vs := its2.toArray) (n := xs.length) (I1.ok.hd hc) (PySem.W.ktu_apart s1.heap.objs.size a b la lb) ?_ (by rw [List.size_toArray]; exact l1.symm) (by rw [List.size_toArray, hl]; exact l2.symm) z1 hTI h1 h2 hz hTO (t1.up fun o e => hk _ o e) (t2.up fun o e => hk _ o e) fun g2 tk acc c bs kp gS hbl hG hacc => ?_
      · show ∀ c, _ → c < g.objs.size
        rw [gsz]
        intro c q
        have la' : (a : Nat) < s1.heap.objs.size := la
        have lb' : (b : Nat) < s1.heap.objs.size := lb
        rcases q with q | q | q | q | q | q | q <;> (rw [q]; first | exact Nat.lt_of_lt_of_le la' (Nat.le_add_right _ _) | exact Nat.lt_of_lt_of_le lb' (Nat.le_add_right _ _) | exact Nat.lt_add_of_pos_right (by decide) | exact Nat.add_lt_add_left (by decide) _)
      · have hkp : ∀ b o, s1.heap.get? b = some o → g2.get? b = some o := fun b o e => by
          have lt := Heap.lt_size e
          have ne : ∀ k : Nat, b ≠ s1.heap.objs.size + k := fun k => Nat.ne_of_lt (Nat.lt_of_lt_of_le lt (Nat.le_add_right _ _))
          exact kp b o (ne 4) (ne 3) (ne 0) (ne 1) (hk b o e)
        have lowS : s1.heap.objs.size ≤ g.objs.size := by rw [gsz]; exact Nat.le_add_right _ _
        have nd : bs.Nodup := List.Pairwise.imp (fun {a b} (h : a < b) => Nat.ne_of_lt h) hG.rise
        have new : ∀ t ∈ bs, H1 t = none := fun t ht => I1.hok.fresh (Nat.le_trans lowS (Nat.le_of_lt (hG.above t ht)))
        have newS : H1 g.objs.size = none := I1.hok.fresh lowS
        have hSn : g.objs.size ∉ bs := fun z => Nat.lt_irrefl _ (hG.above _ z)
        have off : ∀ b, b ∉ bs → b ≠ g.objs.size → putP (upd H1 g.objs.size (.lst (bs.map V.ref))) bs (xs.zip ys) b = H1 b := fun b m1 m2 => (putP_off bs _ _ m1).trans (upd_ne m2)
        have kpH : ∀ b u, H1 b = some u → putP (upd H1 g.objs.size (.lst (bs.map V.ref))) bs (xs.zip ys) b = some u := fun b u e => by
          rw [off b (fun z => by rw [new b z] at e; cases e) (fun z => by rw [z, newS] at e; cases e)]
          exact e
        have eS : putP (upd H1 g.objs.size (.lst (bs.map V.ref))) bs (xs.zip ys) g.objs.size = some (.lst (bs.map V.ref)) := by rw [putP_off bs _ _ hSn, upd_same]
        have atj : ∀ (j : Nat) (t : Addr), bs[j]? = some t → ∃ x y, xs[j]? = some x ∧ ys[j]? = some y ∧ putP (upd H1 g.objs.size (.lst (bs.map V.ref))) bs (xs.zip ys) t = some (.tup [x, y]) := fun j t hj => by
          have jl : j < xs.length := by
            have := (List.getElem?_eq_some_iff.mp hj).1
            omega
          have jl2 : j < ys.length := by omega
          refine ⟨xs[j], ys[j], List.getElem?_eq_getElem jl, List.getElem?_eq_getElem jl2, ?_⟩
          exact putP_at bs (xs.zip ys) _ nd j t (xs[j], ys[j]) hj ((List.getElem?_zip_eq_some (z := (xs[j], ys[j]))).mpr ⟨List.getElem?_eq_getElem jl, List.getElem?_eq_getElem jl2⟩)
        refine ⟨.ref g.objs.size, _, ?_, rfl, q _ g.objs.size bs kpH newS new eS hbl atj⟩
        show Inv X pins σ (putP (upd H1 g.objs.size (.lst (bs.map V.ref))) bs (xs.zip ys)) { s1 with heap := g2, toks := tk }
        refine I1.call' (ch := []) rfl ⟨fun b o q _ _ _ => hkp b o q, fun b o q _ _ _ => ⟨o.slots, hkp b o q⟩, fun b o q n _ => ?_, fun b o q _ => ⟨o, hkp b o q⟩, fun b xs q => kpH b _ q, fun b o u q => kpH b _ q, fun b ps q => ⟨#[], by rw [kpH b _ q]; simp⟩⟩ (fun b u q => ?_) I1.bare fun b z => by simp at z
        · have lt := Heap.lt_size q
          rw [off b (fun z => absurd lt (Nat.not_lt.mpr (Nat.le_trans lowS (Nat.le_of_lt (hG.above b z))))) (Nat.ne_of_lt (Nat.lt_of_lt_of_le lt lowS))]
          exact n
        · by_cases hb : b ∈ bs
          · obtain ⟨j, hj⟩ := List.mem_iff_getElem?.mp hb
            obtain ⟨x, y, e1, e2, e3⟩ := atj j b hj
            obtain ⟨u1, v1, f1, f2, f3⟩ := hG.pairs j b hj
            rw [e3] at q
            cases q
            obtain ⟨u2, g1, ru⟩ := rv.get e1
            obtain ⟨v2, g2', rv'⟩ := rv2.get e2
            have a1 : u1 = u2 := by
              rw [List.getElem?_toArray, g1] at f1
              exact (Option.some.inj f1).symm
            have a2 : v1 = v2 := by
              rw [List.getElem?_toArray, g2'] at f2
              exact (Option.some.inj f2).symm
            rw [a1, a2] at f3
            exact ⟨by show 2 ≤ sizeLine; decide, [u2, v2], .cons ru (.cons rv' .nil), ⟨_, f3, rfl, _, rfl⟩⟩
          · by_cases hb2 : b = g.objs.size
            · rw [hb2] at q ⊢
              rw [eS] at q
              cases q
              refine ⟨by rw [List.length_map]; omega, acc.toList, c, by rw [hacc]; exact LiI.vals_refs bs, ?_⟩
              rw [Array.toArray_toList]
              exact gS
            · rw [off b hb hb2] at q
              exact (I1.hok b u q).stay (fun d v _ y => hkp d v y) (fun d y => kpH d _ y) fun d xs y => kpH d _ y
end
end Mix

set_option Elab.async false
set_option linter.all false
set_option maxRecDepth 100000
set_option maxHeartbeats 4000000
/-! Part B4: a comprehension over a zip; the atoms and the inner things of a body. -/
namespace Mix
open PySem PySem.Spec PyProof.Rows L2
/-- a comprehension over a zip of two rows, the first not the longer one -/
theorem lc_zipG {ca cb : Bool} {K : PySem.W.Frag} {a b : Addr} {xs ys : List V} {g : TG} {tt : TT} {te : TE} {vs : List Nat} {σ : L2.St} {H1 : Hp} {D : Addr} {Qd : Hp → Prop} (hl : xs.length ≤ ys.length) (Pv : Nat → Hp → Prop) (h0 : Pv 0 (upd H1 D (.lst []))) (hq : ∀ i H, Pv i H → SqG ca K H a xs ∧ SqG cb K H b ys)
    (hs : ∀ (i : Nat) (x y : V) (T : Addr) (H : Hp), xs[i]? = some x → ys[i]? = some y → Pv i H → H T = none → g (.ref T) (wipe σ vs) (upd H T (.tup [x, y])) fun σ2 H2 => wipe σ2 vs = wipe σ vs ∧ tt σ2 H2 fun b H3 =>
      if b = true then te σ2 H3 fun y H4 => ∃ acc, H4 D = some (.lst acc) ∧ acc.length < sizeLine ∧ Pv (i + 1) (upd H4 D (.lst (acc ++ [y]))) else Pv (i + 1) H3) (hd : ∀ H, Pv xs.length H → Qd H) :
    ∃ W : Nat → Nat → Hp → Prop, (∃ m, W 0 m (upd H1 D (.lst []))) ∧ ∀ i m H, W i m H →
      ((Itg ca cb K a b).stop i H ∧ Qd H) ∨ ((Itg ca cb K a b).go i H ∧ ∃ Nx : Hp → Prop, (∀ H', Nx H' → ∃ m', m' < m ∧ W (i + 1) m' H') ∧ ∀ x H', (Itg ca cb K a b).yld i H x H' → g x (wipe σ vs) H' fun σ2 H2 => wipe σ2 vs = wipe σ vs ∧ tt σ2 H2 fun b H3 =>
        if b = true then te σ2 H3 fun y H4 => ∃ acc, H4 D = some (.lst acc) ∧ acc.length < sizeLine ∧ Nx (upd H4 D (.lst (acc ++ [y]))) else Nx H3) := by
  refine ⟨fun i m H => m = xs.length - i ∧ i ≤ xs.length ∧ Pv i H, ⟨xs.length, rfl, Nat.zero_le _, h0⟩, ?_⟩
  rintro i m H ⟨rfl, hi, p⟩
  obtain ⟨qx, qy⟩ := hq i H p
  rcases Nat.lt_or_ge i xs.length with lt | ge
  · refine .inr ⟨⟨xs, ys, xs[i], ys[i]'(by omega), qx, qy, List.getElem?_eq_getElem lt, List.getElem?_eq_getElem (by omega)⟩, Pv (i + 1), fun H' p' => ⟨xs.length - (i + 1), by omega, rfl, lt, p'⟩, fun v H' hy => ?_⟩
    obtain ⟨T, x', y', rfl, hT, rfl, f1, f2⟩ := hy
    exact hs i x' y' T H (f1 xs qx) (f2 ys qy) p hT
  · have e : i = xs.length := by omega
    subst e
    exact .inl ⟨⟨xs, ys, qx, qy, .inl (Nat.le_refl _)⟩, hd H p⟩
end Mix
namespace Toy
open PySem L2
open PyProof.Rows (envOfC)
def coreWords : List Str := ["let", "seq", "case", "pick", "note"]
/-- the atoms of a body or a delayed thing -/
def atomsW (w : Str) (r : List Dd) : List Dd :=
  if w = "atom" then [arg 0 r] else if w = "call" then arg 0 r :: tl (arg 1 r) else if w = "con" ∨ w = "part" then tl (arg 1 r) else if w = "prim" then r.drop 1 else []
/-- what must stand there, so that they can be read -/
def AtomsOk (w : Str) (r : List Dd) : Prop := (w = "atom" → 1 ≤ r.length) ∧ (w = "call" ∨ w = "con" ∨ w = "part" → 2 ≤ r.length ∧ isTup (arg 1 r) = true) ∧ (w = "prim" → 2 ≤ r.length)
theorem dd_tup {k : Dd} (h : isTup k = true) : k = .tup (tl k) := by
  cases k with
  | tup l => rfl
  | int i => cases h
  | bl b => cases h
  | non => cases h
  | str s => cases h
  | lst l => cases h
/-- the things within, each with the names bound around it -/
def innerW (w : Str) (r : List Dd) : List (List Str × Dd) := if w = "later" then [([], arg 0 r)] else if w ∈ coreWords then (scopesW w r).zip (partsW w r) else []
def InnerOk (w : Str) (r : List Dd) : Prop := (w = "later" → 1 ≤ r.length) ∧ (w ∈ coreWords → formW w r = true)
theorem ats_drop1 {B : Addr → Prop} {H : Hp} {x : V} {l : List Dd} {xs : List V} (h : Dd.Ats B H l (x :: xs)) : Dd.Ats B H (l.drop 1) xs := by
  cases l with
  | nil => cases h
  | cons k l =>
    obtain ⟨y, ys, e, _, hs⟩ := h
    cases e
    exact hs
/-- new pairs of what stands in two rows -/
theorem ats_zip {B : Addr → Prop} {H : Hp} : ∀ {bs : List Addr} {ss : List (List Str)} {ps : List Dd} {xs ys : List V}, Dd.Ats B H (ss.map nameT) xs → Dd.Ats B H ps ys → bs.length = xs.length → xs.length = ys.length →
    (∀ (j : Nat) (t : Addr), bs[j]? = some t → ∃ x y, xs[j]? = some x ∧ ys[j]? = some y ∧ H t = some (.tup [x, y])) → Dd.Ats B H ((ss.zip ps).map fun q => pairD q.1 q.2) (bs.map V.ref)
  | [], ss, ps, xs, ys, h1, h2, e1, e2, _ => by
    have z1 := ats_len h1
    rw [List.length_map] at z1
    have e1 : 0 = xs.length := e1
    have z : ss = [] := List.length_eq_zero_iff.mp (by omega)
    subst z
    exact rfl
  | b :: bs, [], ps, xs, ys, h1, h2, e1, e2, _ => by
    cases (show xs = [] from h1)
    cases e1
  | b :: bs, s :: ss, [], xs, ys, h1, h2, e1, e2, _ => by
    cases (show ys = [] from h2)
    rw [e2] at e1
    cases e1
  | b :: bs, s :: ss, k :: ps, xs, ys, ⟨x, xs', ex, hx, hxs⟩, ⟨y, ys', ey, hy, hys⟩, e1, e2, h => by
    subst ex ey
    obtain ⟨x0, y0, g1, g2, g3⟩ := h 0 b rfl
    have g1 : x = x0 := Option.some.inj g1
    have g2 : y = y0 := Option.some.inj g2
    subst g1 g2
    exact ats_cons (at_tup g3 (ats_cons hx (ats_cons hy ats_nil))) (ats_zip hxs hys (Nat.succ.inj e1) (Nat.succ.inj e2) fun j t ht => h (j + 1) t ht)
structure TxtB (K : PySem.W.Frag) (mg : Str → Option Value) (aC : Addr) : Prop where
  zlist : mg "list" = none
  zzip : mg "zip" = none
  gCORE_WORDS : ∃ u, mg "CORE_WORDS" = some u ∧ RelV (.ref aC) u
  kCORE : ∀ H : Hp, SqT K H aC (coreWords.map V.str)
section
variable {P : Program} {w : World} {K : PySem.W.Frag} {mg : Str → Option Value} {base : Heap} {aC : Addr}
abbrev sAtoms : Stmt := topS 17
theorem scAtoms : FnScope ["thing", "word"] ["thing"] (defScope sAtoms) := ⟨rfl, rfl, rfl, by decide +kernel, rfl, by decide +kernel, by decide +kernel⟩
def spAtoms : Sp := fun vs H Q _ => ∃ (B : Addr → Prop) (v : V) (z : Str) (r : List Dd), vs = [v] ∧ (Dd.tup (.str z :: r)).At B H v ∧ AtomsOk z r ∧ (Dd.tup (.str z :: r)).sz ≤ 1000000 ∧ ∀ (u : Addr) (xs : List V) (H' : Hp), Same H H' → H' u = some (.tup xs) → Dd.Ats B H' (atomsW z r) xs → Q (.ref u) H'
theorem c_atoms {f : Addr} {fd : FuncData} (F : Fun K "atoms_of" "atoms_of" sAtoms f fd) (b : Binds K fd ["thing"] []) (hm : mg "atoms_of" = some (.ref f)) : C8.Cal P w K mg base 1 "atoms_of" spAtoms [] := by
  refine cal_of F hm b scAtoms (fun vs H Q E h => ?_) (fun cdv A outer s H vs Q E hr h => ?_)
  · obtain ⟨B, v, z, r, rfl, _⟩ := h
    rfl
  obtain ⟨B, v, z, r, rfl, hat, ⟨o1, o2, o3⟩, hsz, q⟩ := h
  have hbig := big
  refine ⟨_, (pss_cons (ps_set (i := 1) scAtoms.nd rfl (Or.inl rfl) (pe_ix ix_tup (pv 0) pe_int (fun _ _ => rfl)))
    (pss_cons (ps_if (pt_cmpR op_eq (pv 1) pe_str (nomark _))
      (pss_one (ps_ret (pe_tup (pa_cons (pe_ix ix_tup (pv 0) pe_int (fun _ _ => rfl)) pa_nil))))
      pss_nil)
    (pss_cons (ps_if (pt_cmpR op_eq (pv 1) pe_str (nomark _))
      (pss_one (ps_ret (pe_tup (pa_cons (pe_ix ix_tup (pv 0) pe_int (fun _ _ => rfl)) (StX.pa_star (pe_ix ix_tup (pv 0) pe_int (fun _ _ => rfl)) pa_nil)))))
      pss_nil)
    (pss_cons (ps_if (pt_cmpR op_in_seq (pv 1) (pe_tup (pa_cons pe_str (pa_cons pe_str pa_nil))) rfl)
      (pss_one (ps_ret (pe_ix ix_tup (pv 0) pe_int (fun _ _ => rfl))))
      pss_nil)
    (pss_one (ps_ret (pe_ifExp (pt_cmpR op_eq (pv 1) pe_str (nomark _)) (pe_slice sl_tupA (pv 0) (po_some pe_int) po_none) (pe_tup pa_nil)))))))), ?_⟩
  obtain ⟨a, ys, rfl, ha, hys, hyl, hzl⟩ := head_at hat
  refine ⟨_, rfl, a, _, 0, _, rfl, rfl, SqT.of ha, at0 _ _, ?_⟩
  show gName 1 (V.str z) _ _ _
  refine ⟨_, rfl, rfl, _, rfl, ?_⟩
  by_cases c1 : z = "atom"
  · subst c1
    show if decide (V.str "atom" = V.str "atom") = true then _ else _
    rw [wtt]
    refine iteT ?_
    obtain ⟨x, hx, hxa⟩ := arg_at (v0 := .str "atom") hys (i := 0) (o1 rfl)
    refine ⟨_, rfl, a, _, 1, _, rfl, rfl, SqT.of ha, hx, by show 1 ≤ sizeLine; decide, fun u hu => ?_⟩
    have s1 := same_new hu (.tup [x])
    exact q u [x] _ s1 upd_same (by unfold atomsW; rw [if_pos rfl]; exact ats_one (hxa.keep (fr_same s1)))
  show if decide (V.str z = V.str "atom") = true then _ else _
  rw [wne c1]
  refine iteF ?_
  refine ⟨_, rfl, rfl, _, rfl, ?_⟩
  by_cases c2 : z = "call"
  · subst c2
    show if decide (V.str "call" = V.str "call") = true then _ else _
    rw [wtt]
    refine iteT ?_
    obtain ⟨h2, ht⟩ := o2 (.inl rfl)
    obtain ⟨x, hx, hxa⟩ := arg_at (v0 := .str "call") hys (i := 0) (by omega)
    obtain ⟨x2, hx2, hxa2⟩ := arg_at (v0 := .str "call") hys (i := 1) (by omega)
    have hz2 := arg_sz (w := "call") (r := r) 1
    rw [dd_tup ht] at hxa2 hz2
    have hz2 : 1 + Dd.szs (tl (arg 1 r)) ≤ _ := hz2
    obtain ⟨p, zs, rfl, ep, hps⟩ := hxa2
    have hpl := ats_len hps
    have hlz := szs_len (tl (arg 1 r))
    refine ⟨_, rfl, a, _, 1, _, rfl, rfl, SqT.of ha, hx, _, rfl, a, _, 2, _, rfl, rfl, SqT.of ha, hx2, p, zs, rfl, .inl (SqT.of ep), ?_, fun u hu => ?_⟩
    · show (zs ++ []).length + 1 ≤ _
      rw [List.append_nil]
      omega
    rw [List.append_nil] at *
    have s1 := same_new hu (.tup (x :: zs))
    exact q u _ _ s1 upd_same (by unfold atomsW; rw [if_neg (by decide +kernel), if_pos rfl]; exact ats_cons (hxa.keep (fr_same s1)) (hps.keep (fr_same s1)))
  show if decide (V.str z = V.str "call") = true then _ else _
  rw [wne c2]
  refine iteF ?_
  refine ⟨_, rfl, by show 2 ≤ sizeLine; decide, fun t1 ht1 => ?_⟩
  have s1 := same_new ht1 (.tup [.str "con", .str "part"])
  have e1 : upd H t1 (.tup [.str "con", .str "part"]) t1 = some (.tup ([("con" : Str), "part"].map V.str)) := upd_same
  refine ⟨t1, _, rfl, .inr (SqT.of e1), rfl, flat_strs _, _, rfl, ?_⟩
  rw [in_ifs]
  have ha1 := s1 _ _ ha
  have hys1 := hys.keep (fr_same s1)
  generalize upd H t1 (.tup [.str "con", .str "part"]) = H1 at s1 e1 ha1 hys1 ⊢
  by_cases c3 : z ∈ [("con" : Str), "part"]
  · rw [decide_eq_true c3]
    refine iteT ?_
    have c3' : z = "con" ∨ z = "part" := by
      simp only [List.mem_cons, List.not_mem_nil, or_false] at c3
      exact c3
    obtain ⟨h2, ht⟩ := o2 (.inr c3')
    obtain ⟨x2, hx2, hxa2⟩ := arg_at (v0 := .str z) hys1 (i := 1) (by omega)
    rw [dd_tup ht] at hxa2
    obtain ⟨p, zs, rfl, ep, hps⟩ := hxa2
    refine ⟨_, rfl, a, _, 2, _, rfl, rfl, SqT.of ha1, hx2, ?_⟩
    exact q p zs _ s1 ep (by unfold atomsW; rw [if_neg c1, if_neg c2, if_pos c3']; exact hps)
  rw [decide_eq_false c3]
  refine iteF ?_
  have c3' : ¬ (z = "con" ∨ z = "part") := fun h => c3 (by simp only [List.mem_cons, List.not_mem_nil, or_false]; exact h)
  refine ⟨_, rfl, rfl, _, rfl, ?_⟩
  by_cases c4 : z = "prim"
  · subst c4
    show if decide (V.str "prim" = V.str "prim") = true then _ else _
    rw [wtt]
    refine iteT ?_
    have h2 := o3 rfl
    refine ⟨_, rfl, _, rfl, a, _, rfl, SqT.of ha1, fun h => absurd h.1 (cut_no1 2 _ _ (by rw [List.length_cons]; omega)), fun _ u hu => ?_⟩
    rw [show cutV (V.str "prim" :: ys) (some 2) none = ys.drop 1 from cut_from (.str "prim" :: ys) 2 (by rw [List.length_cons]; omega)]
    have s2 := same_new hu (.tup (ys.drop 1))
    exact q u _ _ (sameT s1 s2) upd_same (by unfold atomsW; rw [if_neg c1, if_neg c2, if_neg c3', if_pos rfl]; exact (ats_drop hys1).keep (fr_same s2))
  · show if decide (V.str z = V.str "prim") = true then _ else _
    rw [wne c4]
    refine iteF ?_
    refine ⟨by show 0 ≤ sizeLine; decide, fun u hu => ?_⟩
    have s2 := same_new hu (.tup [])
    exact q u [] _ (sameT s1 s2) upd_same (by unfold atomsW; rw [if_neg c1, if_neg c2, if_neg c3', if_neg c4]; exact rfl)
abbrev sInnerOf : Stmt := topS 18
theorem scInnerOf : FnScope ["thing"] ["thing"] (defScope sInnerOf) := ⟨rfl, rfl, rfl, by decide +kernel, rfl, by decide +kernel, by decide +kernel⟩
def spInnerOf : Sp := fun vs H Q _ => ∃ (B : Addr → Prop) (v : V) (z : Str) (r : List Dd), vs = [v] ∧ (Dd.tup (.str z :: r)).At B H v ∧ InnerOk z r ∧ (Dd.tup (.str z :: r)).sz ≤ 1000000 ∧ ∀ (L : Addr) (xs : List V) (H' : Hp), Same H H' → H L = none → H' L = some (.lst xs) → Dd.Ats B H' ((innerW z r).map fun q => pairD q.1 q.2) xs → Q (.ref L) H'
theorem c_innerof {f : Addr} {fd : FuncData} (T : TxtB K mg aC) (cscopes_of : C8.Cal P w K mg base 4 "scopes_of" spScopes []) (cparts_of : C8.Cal P w K mg base 3 "parts_of" spParts []) (F : Fun K "inner_of" "inner_of" sInnerOf f fd) (b : Binds K fd ["thing"] []) (hm : mg "inner_of" = some (.ref f)) : C8.Cal P w K mg base 5 "inner_of" spInnerOf [] := by
  refine cal_of F hm b scInnerOf (fun vs H Q E h => ?_) (fun cdv A outer s H vs Q E hr h => ?_)
  · obtain ⟨B, v, z, r, rfl, _⟩ := h
    rfl
  obtain ⟨B, v, z, r, rfl, hat, ⟨o1, o2⟩, hsz, q⟩ := h
  have hbig := big
  refine ⟨_, (pss_cons (ps_if (pt_cmpR op_eq (pe_ix ix_tup (pv 0) pe_int (fun _ _ => rfl)) pe_str (nomark _))
      (pss_one (ps_ret (pe_lst (pa_cons (pe_tup (pa_cons (pe_tup pa_nil) (pa_cons (pe_ix ix_tup (pv 0) pe_int (fun _ _ => rfl)) pa_nil))) pa_nil))))
      pss_nil)
    (pss_cons (ps_if (pt_cmpR op_in_seq (pe_ix ix_tup (pv 0) pe_int (fun _ _ => rfl)) (C8.pe_gc rfl T.gCORE_WORDS) rfl)
      (pss_one (ps_ret (Mix.pe_listZip false true rfl rfl T.zlist boot_list rfl T.zzip (pa_cons (C8.pe_c cscopes_of hr (by decide) rfl (pa_cons (pv 0) pa_nil)) (pa_cons (C8.pe_c cparts_of hr (by decide) rfl (pa_cons (pv 0) pa_nil)) pa_nil)))))
      pss_nil)
    (pss_one (ps_ret (pe_lst pa_nil))))), ?_⟩
  have hat0 := hat
  obtain ⟨a, ys, rfl, ha, hys, hyl, hzl⟩ := head_at hat
  refine ⟨_, rfl, a, _, 0, _, rfl, rfl, SqT.of ha, at0 _ _, rfl, _, rfl, ?_⟩
  by_cases c1 : z = "later"
  · subst c1
    show if decide (V.str "later" = V.str "later") = true then _ else _
    rw [wtt]
    refine iteT ?_
    obtain ⟨x, hx, hxa⟩ := arg_at (v0 := .str "later") hys (i := 0) (o1 rfl)
    refine ⟨by show 0 ≤ sizeLine; decide, fun t0 h0 => ⟨_, rfl, a, _, 1, _, rfl, rfl, SqT.of ((same_new h0 _) _ _ ha), hx, by show 2 ≤ sizeLine; decide, fun t1 h1 => ⟨by show 1 ≤ sizeLine; decide, fun L hL => ?_⟩⟩⟩
    have u0 := same_new h0 (.tup [])
    have u1 := same_new h1 (.tup [.ref t0, x])
    have u2 := same_new hL (.lst [.ref t1])
    have u := sameT u0 (sameT u1 u2)
    refine q L [.ref t1] _ u (free_of (sameT u0 u1) hL) upd_same ?_
    unfold innerW
    rw [if_pos rfl]
    exact ats_one (at_tup (u2 _ _ upd_same) (ats_cons (at_tup (sameT u1 u2 _ _ upd_same) ats_nil) (ats_cons (hxa.keep (fr_same u)) ats_nil)))
  show if decide (V.str z = V.str "later") = true then _ else _
  rw [wne c1]
  refine iteF ?_
  refine ⟨_, rfl, a, _, 0, _, rfl, rfl, SqT.of ha, at0 _ _, aC, _, rfl, .inr (T.kCORE H), rfl, flat_strs _, _, rfl, ?_⟩
  rw [in_ifs]
  by_cases c2 : z ∈ coreWords
  · rw [decide_eq_true c2]
    refine iteT ?_
    have hf : formB (.tup (.str z :: r)) = true := o2 c2
    refine ⟨_, rfl, B, .ref a, _, rfl, hat0, hf, hsz, fun L1 xs1 H1 s1 hL1 e1 hx1 => ⟨_, rfl, B, .ref a, _, rfl, hat0.keep (fr_same s1), hf, hsz, fun b2 xs2 H2 s2 e2 hx2 => ?_⟩⟩
    have hl1 := ats_len hx1
    have hl2 := ats_len hx2
    rw [List.length_map] at hl1
    have hl := scopes_len hf
    refine ⟨L1, b2, xs1, xs2, rfl, SqL.of (s2 _ _ e1), SqT.of e2, by omega, fun H' p bs s3 hp hbs ep hbl hbt => ?_⟩
    refine q p _ H' (sameT s1 (sameT s2 s3)) (free_of (sameT s1 s2) hp) ep ?_
    unfold innerW
    rw [if_neg c1, if_pos c2]
    exact ats_zip ((hx1.keep (fr_same (sameT s2 s3))).weak fun _ _ _ z => z.elim) (hx2.keep (fr_same s3)) hbl (by omega) hbt
  · rw [decide_eq_false c2]
    refine iteF ?_
    refine ⟨by show 0 ≤ sizeLine; decide, fun L hL => ?_⟩
    refine q L [] _ (same_new hL _) hL upd_same ?_
    unfold innerW
    rw [if_neg c1, if_neg c2]
    exact rfl
end
end Toy

set_option Elab.async false
set_option linter.all false
set_option maxRecDepth 100000
set_option maxHeartbeats 4000000
/-! Part C6: what can be looked into; the names that occur free in a body; tasks of a walk. -/
namespace Toy
open PySem L2
open PyProof.Rows (envOfC)
def innerP : Dd → List (List Str × Dd)
  | .tup (.str w :: r) => innerW w r
  | _ => []
def atomsP : Dd → List Dd
  | .tup (.str w :: r) => atomsW w r
  | _ => []
def isAtm : Dd → Bool
  | .str _ => true
  | .int _ => true
  | _ => false
/-- the name occurs free -/
inductive fr : Dd → Str → Prop
  | here {k : Dd} {s : Str} : .str s ∈ atomsP k → fr k s
  | deep {k : Dd} {s : Str} {q : List Str × Dd} : q ∈ innerP k → s ∉ q.1 → fr q.2 s → fr k s
theorem fr_eq {k : Dd} {s : Str} : fr k s ↔ .str s ∈ atomsP k ∨ ∃ q ∈ innerP k, s ∉ q.1 ∧ fr q.2 s :=
  ⟨fun h => match h with
    | .here h => .inl h
    | .deep h1 h2 h3 => .inr ⟨_, h1, h2, h3⟩, fun h => h.elim .here fun ⟨_, h1, h2, h3⟩ => .deep h1 h2 h3⟩
def thingWords : List Str := ["atom", "call", "con", "prim", "let", "seq", "case", "pick", "note", "later", "part"]
/-- what is asked besides, so that code can be put together -/
def MkOk (w : Str) (r : List Dd) : Prop := w ∈ thingWords ∧ (w = "prim" → r.length = 3) ∧ (w = "part" → isStr (arg 0 r) = true)
def glT (U : List Str) : Nat → Dd → Prop
  | 0, _ => True
  | n + 1, k => ∃ w r, k = .tup (.str w :: r) ∧ AtomsOk w r ∧ InnerOk w r ∧ (∀ a ∈ atomsW w r, isAtm a = true) ∧ MkOk w r ∧ ∀ q ∈ innerW w r, (∀ s ∈ q.1, s ∈ U) ∧ glT U n q.2
/-- a thing that can be looked into, its own names among U -/
def gl (U : List Str) (k : Dd) : Prop := ∀ n, glT U n k
theorem gl_parts {U : List Str} {k : Dd} (h : gl U k) : ∃ w r, k = .tup (.str w :: r) ∧ AtomsOk w r ∧ InnerOk w r ∧ (∀ a ∈ atomsW w r, isAtm a = true) ∧ MkOk w r ∧ ∀ q ∈ innerW w r, (∀ s ∈ q.1, s ∈ U) ∧ gl U q.2 := by
  obtain ⟨w, r, rfl, h1, h2, h3, hm, h4⟩ := h 1
  refine ⟨w, r, rfl, h1, h2, h3, hm, fun q hq => ⟨(h4 q hq).1, fun n => ?_⟩⟩
  obtain ⟨w', r', e, _, _, _, _, h5⟩ := h (n + 1)
  have e : Dd.str w :: r = .str w' :: r' := Dd.tup.inj e
  obtain ⟨e1, e2⟩ := List.cons.inj e
  cases Dd.str.inj e1
  cases e2
  exact (h5 q hq).2
theorem gl_mk {U : List Str} {w : Str} {r : List Dd} (h1 : AtomsOk w r) (h2 : InnerOk w r) (h3 : ∀ a ∈ atomsW w r, isAtm a = true) (hm : MkOk w r) (h4 : ∀ q ∈ innerW w r, (∀ s ∈ q.1, s ∈ U) ∧ gl U q.2) : gl U (.tup (.str w :: r)) := by
  intro n
  cases n with
  | zero => trivial
  | succ n => exact ⟨w, r, rfl, h1, h2, h3, hm, fun q hq => ⟨(h4 q hq).1, (h4 q hq).2 n⟩⟩
/-! ### how often names are bound -/
def bump (c : Str → Int) (ns : List Str) (d : Int) : Str → Int := fun s => c s + d * ((ns.count s : Nat) : Int)
theorem bump_back (c : Str → Int) (ns : List Str) : bump (bump c ns 1) ns (-1) = c := by
  funext s
  show c s + 1 * _ + -1 * _ = c s
  omega
theorem bump_snoc (c : Str → Int) (ns : List Str) (x : Str) (d : Int) : bump (bump c ns d) [x] d = bump c (ns ++ [x]) d := by
  funext s
  show c s + d * _ + d * _ = c s + d * (((ns ++ [x]).count s : Nat) : Int)
  rw [List.count_append, Int.natCast_add, Int.mul_add]
  omega
theorem bump_nil (c : Str → Int) (d : Int) : bump c [] d = c := by
  funext s
  show c s + d * ((0 : Nat) : Int) = c s
  simp
inductive Tk
  | vis (k : Dd)
  | chg (ns : List Str) (d : Int)
def tkD : Tk → Dd
  | .vis k => .tup [k, nameT [], .int 0]
  | .chg ns d => .tup [.non, nameT ns, .int d]
/-- what is found from now on; the task that is next stands first -/
def frS : (Str → Int) → List Tk → Str → Prop
  | _, [], _ => False
  | c, .vis k :: rs, s => (fr k s ∧ c s = 0) ∨ frS c rs s
  | c, .chg ns d :: rs, s => frS (bump c ns d) rs s
def okS : (Str → Int) → List Tk → Prop
  | _, [] => True
  | c, .vis _ :: rs => (∀ s, 0 ≤ c s) ∧ okS c rs
  | c, .chg ns d :: rs => okS (bump c ns d) rs
def trip (q : List Str × Dd) : List Tk := [.chg q.1 1, .vis q.2, .chg q.1 (-1)]
theorem bump0 {c : Str → Int} {ns : List Str} {s : Str} (h : 0 ≤ c s) : bump c ns 1 s = 0 ↔ c s = 0 ∧ s ∉ ns := by
  show c s + 1 * ((ns.count s : Nat) : Int) = 0 ↔ _
  rw [← List.count_eq_zero]
  omega
theorem bump_pos {c : Str → Int} {ns : List Str} (h : ∀ s, 0 ≤ c s) (s : Str) : 0 ≤ bump c ns 1 s := by
  have := h s
  show 0 ≤ c s + 1 * ((ns.count s : Nat) : Int)
  omega
theorem frS_trips : ∀ (L : List (List Str × Dd)) (c : Str → Int) (rs : List Tk) (s : Str), (∀ s, 0 ≤ c s) → (frS c ((L.map trip).flatten ++ rs) s ↔ ((∃ q ∈ L, s ∉ q.1 ∧ fr q.2 s) ∧ c s = 0) ∨ frS c rs s)
  | [], c, rs, s, h => by
    constructor
    · exact .inr
    · rintro (⟨⟨q, h, _⟩, _⟩ | h)
      · cases h
      · exact h
  | q :: L, c, rs, s, h => by
    have ih := frS_trips L c rs s h
    show ((fr q.2 s ∧ bump c q.1 1 s = 0) ∨ frS (bump (bump c q.1 1) q.1 (-1)) ((L.map trip).flatten ++ rs) s) ↔ _
    rw [bump_back, ih, bump0 (h s)]
    constructor
    · rintro (⟨h1, h2, h3⟩ | ⟨⟨p, h1, h2⟩, h3⟩ | h1)
      · exact .inl ⟨⟨q, List.mem_cons_self .., h3, h1⟩, h2⟩
      · exact .inl ⟨⟨p, List.mem_cons_of_mem _ h1, h2⟩, h3⟩
      · exact .inr h1
    · rintro (⟨⟨p, h1, h2⟩, h3⟩ | h1)
      · rcases List.mem_cons.mp h1 with e | e
        · rw [e] at h2
          exact .inl ⟨h2.2, h3, h2.1⟩
        · exact .inr (.inl ⟨⟨p, e, h2⟩, h3⟩)
      · exact .inr (.inr h1)
theorem okS_trips : ∀ (L : List (List Str × Dd)) (c : Str → Int) (rs : List Tk), (∀ s, 0 ≤ c s) → okS c rs → okS c ((L.map trip).flatten ++ rs)
  | [], _, _, _, h => h
  | q :: L, c, rs, h, k => by
    refine ⟨bump_pos h, ?_⟩
    show okS (bump (bump c q.1 1) q.1 (-1)) ((L.map trip).flatten ++ rs)
    rw [bump_back]
    exact okS_trips L c rs h k
def tripR (q : List Str × Dd) : List Tk := [.chg q.1 (-1), .vis q.2, .chg q.1 1]
theorem trips_rev (L : List (List Str × Dd)) : ((L.map tripR).flatten).reverse = (L.reverse.map trip).flatten := by
  rw [List.reverse_flatten, List.map_map, List.map_reverse]
  rfl
theorem rev_frs {L : List (List Str × Dd)} {s : Str} : (∃ q ∈ L.reverse, s ∉ q.1 ∧ fr q.2 s) ↔ ∃ q ∈ L, s ∉ q.1 ∧ fr q.2 s :=
  ⟨fun ⟨q, h, k⟩ => ⟨q, List.mem_reverse.mp h, k⟩, fun ⟨q, h, k⟩ => ⟨q, List.mem_reverse.mpr h, k⟩⟩
/-! ### measures -/
def wtk : Tk → Nat
  | .vis k => 3 * k.sz - 2
  | .chg _ _ => 1
def wts : List Tk → Nat
  | [] => 0
  | t :: l => wtk t + wts l
def vsz : List Tk → Nat
  | [] => 0
  | .vis k :: l => k.sz + vsz l
  | .chg _ _ :: l => vsz l
theorem wts_app : ∀ a b : List Tk, wts (a ++ b) = wts a + wts b
  | [], b => (Nat.zero_add _).symm
  | t :: a, b => by
    show wtk t + wts (a ++ b) = wtk t + wts a + wts b
    rw [wts_app a b]
    omega
theorem vsz_app : ∀ a b : List Tk, vsz (a ++ b) = vsz a + vsz b
  | [], b => (Nat.zero_add _).symm
  | .vis k :: a, b => by
    show k.sz + vsz (a ++ b) = k.sz + vsz a + vsz b
    rw [vsz_app a b]
    omega
  | .chg _ _ :: a, b => vsz_app a b
theorem wts_len : ∀ l : List Tk, l.length ≤ wts l
  | [] => Nat.le_refl _
  | .vis k :: l => by
    have h1 := wts_len l
    have h2 := sz_pos k
    show l.length + 1 ≤ (3 * k.sz - 2) + wts l
    omega
  | .chg _ _ :: l => by
    have h1 := wts_len l
    show l.length + 1 ≤ 1 + wts l
    omega
theorem wts_trips : ∀ L : List (List Str × Dd), wts ((L.map tripR).flatten) = 3 * Dd.szs (L.map (·.2))
  | [] => rfl
  | q :: L => by
    have h1 := wts_trips L
    have h2 := sz_pos q.2
    rw [List.map_cons, List.flatten_cons, wts_app, h1]
    show (1 + ((3 * q.2.sz - 2) + (1 + 0))) + _ = 3 * (q.2.sz + Dd.szs (L.map (·.2)))
    omega
theorem vsz_trips : ∀ L : List (List Str × Dd), vsz ((L.map tripR).flatten) = Dd.szs (L.map (·.2))
  | [] => rfl
  | q :: L => by
    rw [List.map_cons, List.flatten_cons, vsz_app, vsz_trips L]
    show (q.2.sz + 0) + _ = q.2.sz + Dd.szs (L.map (·.2))
    omega
theorem len_trips : ∀ L : List (List Str × Dd), ((L.map tripR).flatten).length = 3 * L.length
  | [] => rfl
  | q :: L => by
    rw [List.map_cons, List.flatten_cons, List.length_append, len_trips L]
    show 3 + _ = 3 * (L.length + 1)
    omega
/-! ### dicts of names -/
def setS (ks : List Str) : List (Key × V) := ks.map fun s => (Sum.inr s, V.bl true)
def addS (ks : List Str) (s : Str) : List Str := if s ∈ ks then ks else ks ++ [s]
theorem get_setS (ks : List Str) (s : Str) : valV (setS ks) (Sum.inr s) = if s ∈ ks then some (V.bl true) else none := by
  induction ks with
  | nil => rfl
  | cons x r ih =>
    unfold setS at ih ⊢
    rw [List.map_cons]
    by_cases e : x = s
    · rw [valV_pos (by rw [e]), if_pos (by rw [e]; exact List.mem_cons_self ..)]
    · rw [valV_neg (fun z => e (Sum.inr.inj z)), ih]
      by_cases h : s ∈ r
      · rw [if_pos h, if_pos (List.mem_cons_of_mem _ h)]
      · rw [if_neg h, if_neg (fun z => (List.mem_cons.mp z).elim (fun q => e q.symm) h)]
theorem put_setS (ks : List Str) (s : Str) : putK (setS ks) (Sum.inr s) (V.bl true) = setS (addS ks s) := by
  unfold addS
  by_cases h : s ∈ ks
  · rw [if_pos h]
    have e : ((setS ks).any fun kv => decide (kv.1 = (Sum.inr s : Key))) = true := by
      rw [List.any_eq_true]
      exact ⟨(Sum.inr s, V.bl true), List.mem_map.mpr ⟨s, h, rfl⟩, decide_eq_true rfl⟩
    unfold putK
    rw [if_pos e]
    unfold setS
    rw [List.map_map]
    refine List.map_congr_left fun x _ => ?_
    show (if (Sum.inr x : Key) = Sum.inr s then (Sum.inr x, V.bl true) else (Sum.inr x, V.bl true)) = _
    split <;> rfl
  · rw [if_neg h, putK_new _ (by rw [get_setS, if_neg h])]
    unfold setS
    rw [List.map_append]
    rfl
theorem mem_addS {ks : List Str} {s t : Str} : t ∈ addS ks s ↔ t ∈ ks ∨ t = s := by
  unfold addS
  split
  · next h => exact ⟨.inl, fun q => q.elim id fun e => e ▸ h⟩
  · rw [List.mem_append, List.mem_singleton]
theorem nodup_addS {ks : List Str} {s : Str} (h : ks.Nodup) : (addS ks s).Nodup := by
  unfold addS
  split
  · exact h
  · next n => exact List.nodup_append.mpr ⟨h, List.pairwise_singleton _ _, fun a ha b hb e => n (by rw [← List.mem_singleton.mp hb, ← e]; exact ha)⟩
theorem len_addS (ks : List Str) (s : Str) : (addS ks s).length ≤ ks.length + 1 := by
  unfold addS
  split
  · omega
  · rw [List.length_append]; exact Nat.le_refl _
/-- a dict that tells how often names are bound -/
structure BAt (kvs : List (Key × V)) (c : Str → Int) (U : List Str) : Prop where
  val : ∀ s, (valV kvs (Sum.inr s)).getD (.int 0) = .int (c s)
  keys : ∃ ks : List Str, kvs.map (·.1) = ks.map Sum.inr ∧ ks.Nodup ∧ ∀ s ∈ ks, s ∈ U
theorem BAt.len {kvs : List (Key × V)} {c : Str → Int} {U : List Str} (h : BAt kvs c U) : kvs.length ≤ U.length := by
  obtain ⟨ks, e, n, m⟩ := h.keys
  have e := congrArg List.length e
  rw [List.length_map, List.length_map] at e
  rw [e]
  exact nodup_len n m
theorem BAt.put {kvs : List (Key × V)} {c : Str → Int} {U : List Str} (h : BAt kvs c U) {x : Str} (d : Int) (hx : x ∈ U) : BAt (putK kvs (Sum.inr x) (.int (c x + d))) (bump c [x] d) U := by
  refine ⟨fun s => ?_, ?_⟩
  · rw [valV_put]
    by_cases e : (Sum.inr s : Key) = Sum.inr x
    · rw [if_pos e]
      cases e
      show V.int (c x + d) = .int (c x + d * (([x].count x : Nat) : Int))
      rw [List.count_singleton_self]
      congr 1
      omega
    · rw [if_neg e, h.val s]
      have n : s ≠ x := fun z => e (by rw [z])
      show V.int (c s) = .int (c s + d * (([x].count s : Nat) : Int))
      rw [List.count_eq_zero.mpr (by rw [List.mem_singleton]; exact n)]
      congr 1
      show c s = c s + d * 0
      omega
  · obtain ⟨ks, e, n, m⟩ := h.keys
    refine ⟨addS ks x, ?_, nodup_addS n, fun s hs => (mem_addS.mp hs).elim (m s) fun z => z ▸ hx⟩
    rw [putK_keys, e]
    unfold addS
    by_cases hm : x ∈ ks
    · rw [if_pos hm, if_pos]
      rw [List.any_eq_true]
      exact ⟨Sum.inr x, List.mem_map.mpr ⟨x, hm, rfl⟩, decide_eq_true rfl⟩
    · rw [if_neg hm, if_neg, List.map_append]
      · rfl
      · rw [List.any_eq_true]
        rintro ⟨j, hj, hj2⟩
        obtain ⟨y, hy, rfl⟩ := List.mem_map.mp hj
        have : y = x := Sum.inr.inj (of_decide_eq_true hj2)
        exact hm (this ▸ hy)
theorem fr_f0 {B : Addr → Prop} {H H' : Hp} (f : Fr B H H') : Fr F0 H H' := ⟨f.1, fun _ _ z => z.elim⟩
theorem zip_fst {α β : Type} : ∀ {l : List α} {m : List β}, l.length = m.length → (l.zip m).map (·.2) = m
  | [], [], _ => rfl
  | a :: l, b :: m, h => by
    show b :: (l.zip m).map (·.2) = b :: m
    rw [zip_fst (Nat.succ.inj h)]
  | [], _ :: _, h => by cases h
  | _ :: _, [], h => by cases h
theorem inner_sz {w : Str} {r : List Dd} (h : InnerOk w r) : Dd.szs ((innerW w r).map (·.2)) < (Dd.tup (.str w :: r)).sz := by
  unfold innerW
  by_cases c1 : w = "later"
  · subst c1
    rw [if_pos rfl]
    have h1 := h.1 rfl
    obtain ⟨x, r', rfl⟩ : ∃ x r', r = x :: r' := by
      cases r with
      | nil => exact absurd h1 (by decide)
      | cons x r' => exact ⟨x, r', rfl⟩
    show x.sz + 0 < 1 + (1 + (x.sz + Dd.szs r'))
    omega
  · rw [if_neg c1]
    by_cases c2 : w ∈ coreWords
    · rw [if_pos c2]
      have hf : formB (.tup (.str w :: r)) = true := h.2 c2
      have hl : (scopesW w r).length = (partsW w r).length := scopes_len hf
      rw [zip_fst hl]
      exact parts_sz hf
    · rw [if_neg c2]
      show 0 < 1 + _
      omega
theorem atoms_len {w : Str} {r : List Dd} : (atomsW w r).length ≤ (Dd.tup (.str w :: r)).sz := by
  have h1 := arg_sz (w := w) (r := r) 1
  have h2 := szs_tl (arg 1 r)
  have h3 := szs_len (tl (arg 1 r))
  have h4 := szs_len r
  have h5 := sz_pos (arg 1 r)
  have h6 : (Dd.tup (.str w :: r)).sz = 1 + (1 + Dd.szs r) := rfl
  unfold atomsW
  split
  · show 1 ≤ _
    omega
  · split
    · rw [List.length_cons]
      omega
    · split
      · omega
      · split
        · rw [List.length_drop]
          omega
        · exact Nat.zero_le _
def tkOk (U : List Str) : Tk → Prop
  | .vis p => gl U p
  | .chg ns d => (∀ s ∈ ns, s ∈ U) ∧ (d = 1 ∨ d = -1)
theorem tk_take {L : List (List Str × Dd)} {i : Nat} {q : List Str × Dd} (h : L[i]? = some q) : ((L.take (i + 1)).map tripR).flatten = ((L.take i).map tripR).flatten ++ tripR q := by
  rw [List.take_add_one, h, List.map_append, List.flatten_append]
  show _ ++ (tripR q ++ []) = _
  rw [List.append_nil]
theorem line9 : (9000000 : Nat) < sizeLine := by decide
end Toy

set_option Elab.async false
set_option linter.all false
set_option maxRecDepth 100000
set_option maxHeartbeats 8000000
/-! Part D6: free_atoms. -/
namespace Toy
open PySem L2
open PyProof.Rows (envOfC)
theorem atoms_inner {w : Str} {r : List Dd} (h : InnerOk w r) : (atomsW w r).length + Dd.szs ((innerW w r).map (·.2)) ≤ (Dd.tup (.str w :: r)).sz := by
  have h1 := atoms_len (w := w) (r := r)
  have h2 := inner_sz h
  by_cases c : w = "later" ∨ w ∈ coreWords
  · have e : atomsW w r = [] := by
      have hw : w ∈ (("later" : Str) :: coreWords) := List.mem_cons.mpr c
      have z : ∀ w ∈ (("later" : Str) :: coreWords), ¬ (w = "atom") ∧ ¬ (w = "call") ∧ ¬ (w = "con" ∨ w = "part") ∧ ¬ (w = "prim") := by decide +kernel
      obtain ⟨z1, z2, z3, z4⟩ := z w hw
      unfold atomsW
      rw [if_neg z1, if_neg z2, if_neg z3, if_neg z4]
    rw [e]
    show 0 + _ ≤ _
    omega
  · have e : innerW w r = [] := by
      unfold innerW
      rw [if_neg fun z => c (.inl z), if_neg fun z => c (.inr z)]
    rw [e]
    exact h1
/-- the names among some atoms that are not bound, added -/
def addA1 (c : Str → Int) (ks : List Str) : Dd → List Str
  | .str s => if c s = 0 then addS ks s else ks
  | _ => ks
def addA (c : Str → Int) (l : List Dd) (ks : List Str) : List Str := l.foldl (addA1 c) ks
theorem addA_snoc (c : Str → Int) (l : List Dd) (a : Dd) (ks : List Str) : addA c (l ++ [a]) ks = addA1 c (addA c l ks) a := by
  unfold addA
  rw [List.foldl_append]
  rfl
theorem addA1_ok {c : Str → Int} {ks : List Str} (a : Dd) (h : ks.Nodup) : (addA1 c ks a).Nodup ∧ (addA1 c ks a).length ≤ ks.length + 1 ∧ ∀ t, t ∈ addA1 c ks a ↔ t ∈ ks ∨ (a = .str t ∧ c t = 0) := by
  match a with
  | .str s =>
    show (if c s = 0 then addS ks s else ks).Nodup ∧ (if c s = 0 then addS ks s else ks).length ≤ _ ∧ ∀ t, t ∈ (if c s = 0 then addS ks s else ks) ↔ _
    by_cases e : c s = 0
    · rw [if_pos e]
      refine ⟨nodup_addS h, len_addS ks s, fun t => ?_⟩
      rw [mem_addS]
      constructor
      · rintro (h | h)
        · exact .inl h
        · exact .inr ⟨by rw [h], by rw [h]; exact e⟩
      · rintro (h | ⟨h, _⟩)
        · exact .inl h
        · exact .inr (Dd.str.inj h).symm
    · rw [if_neg e]
      refine ⟨h, by omega, fun t => ⟨.inl, fun z => z.elim id fun ⟨h1, h2⟩ => ?_⟩⟩
      rw [Dd.str.inj h1] at e
      exact (e h2).elim
  | .int i => exact ⟨h, Nat.le_succ _, fun t => ⟨.inl, fun z => z.elim id fun ⟨h1, _⟩ => by cases h1⟩⟩
  | .bl i => exact ⟨h, Nat.le_succ _, fun t => ⟨.inl, fun z => z.elim id fun ⟨h1, _⟩ => by cases h1⟩⟩
  | .non => exact ⟨h, Nat.le_succ _, fun t => ⟨.inl, fun z => z.elim id fun ⟨h1, _⟩ => by cases h1⟩⟩
  | .tup i => exact ⟨h, Nat.le_succ _, fun t => ⟨.inl, fun z => z.elim id fun ⟨h1, _⟩ => by cases h1⟩⟩
  | .lst i => exact ⟨h, Nat.le_succ _, fun t => ⟨.inl, fun z => z.elim id fun ⟨h1, _⟩ => by cases h1⟩⟩
theorem addA_ok {c : Str → Int} : ∀ {l : List Dd} {ks : List Str}, ks.Nodup → (addA c l ks).Nodup ∧ (addA c l ks).length ≤ ks.length + l.length ∧ ∀ t, t ∈ addA c l ks ↔ t ∈ ks ∨ (Dd.str t ∈ l ∧ c t = 0)
  | [], ks, h => ⟨h, Nat.le_refl _, fun t => ⟨.inl, fun z => z.elim id fun ⟨h1, _⟩ => by cases h1⟩⟩
  | a :: l, ks, h => by
    obtain ⟨h1, h2, h3⟩ := addA1_ok (c := c) a h
    obtain ⟨g1, g2, g3⟩ := addA_ok (c := c) (l := l) h1
    refine ⟨g1, by rw [List.length_cons]; exact Nat.le_trans g2 (by omega), fun t => ?_⟩
    show t ∈ addA c l (addA1 c ks a) ↔ _
    rw [g3, h3, List.mem_cons]
    constructor
    · rintro ((h | ⟨h, k⟩) | ⟨h, k⟩)
      · exact .inl h
      · exact .inr ⟨.inl h.symm, k⟩
      · exact .inr ⟨.inr h, k⟩
    · rintro (h | ⟨h | h, k⟩)
      · exact .inl (.inl h)
      · exact .inl (.inr ⟨h.symm, k⟩)
      · exact .inr ⟨h, k⟩
structure TxtFA (mg : Str → Option Value) : Prop where
  zisinstance : mg "isinstance" = none
  zstr : mg "str" = none
  zlist : mg "list" = none
section
variable {P : Program} {w : World} {K : PySem.W.Frag} {mg : Str → Option Value} {base : Heap}
abbrev sFree : Stmt := topS 19
theorem scFree : FnScope ["thing", "found", "bound", "todo", "part", "names", "change", "name", "atom", "inner_names", "inner"] ["thing"] (defScope sFree) := ⟨rfl, rfl, rfl, by decide +kernel, rfl, by decide +kernel, by decide +kernel⟩
def spFree : Sp := fun vs H Q _ => ∃ (B : Addr → Prop) (v : V) (k : Dd) (U : List Str), vs = [v] ∧ k.At B H v ∧ gl U k ∧ U.length ≤ 1000000 ∧ k.sz ≤ 1000000 ∧ ∀ (L : Addr) (ys : List Str) (H' : Hp), Same H H' → H L = none → H' L = some (.lst (ys.map V.str)) → ys.Nodup → (∀ s, s ∈ ys ↔ fr k s) → ys.length ≤ 1000000 → Q (.ref L) H'
theorem c_free {f : Addr} {fd : FuncData} (T : TxtFA mg) (catoms_of : C8.Cal P w K mg base 1 "atoms_of" spAtoms []) (cinner_of : C8.Cal P w K mg base 5 "inner_of" spInnerOf []) (F : Fun K "free_atoms" "free_atoms" sFree f fd) (b : Binds K fd ["thing"] []) (hm : mg "free_atoms" = some (.ref f)) : C8.Cal P w K mg base 6 "free_atoms" spFree [] := by
  refine cal_of F hm b scFree (fun vs H Q E h => ?_) (fun cdv A outer s H vs Q E hr h => ?_)
  · obtain ⟨B, v, k, U, rfl, _⟩ := h
    rfl
  obtain ⟨B0, v, k, U, rfl, hat0, hgl, hU, hsz, q⟩ := h
  have hat := hat0.here
  have hline := line9
  have hu := hu_of hr
  refine ⟨_, (pss_cons (ps_set (i := 1) scFree.nd rfl (Or.inl rfl) pe_dnewK)
    (pss_cons (ps_set (i := 2) scFree.nd rfl (Or.inl rfl) pe_dnewK)
    (pss_cons (ps_set (i := 3) scFree.nd rfl (Or.inl rfl) (pe_lst (pa_cons (pe_tup (pa_cons (pv 0) (pa_cons (pe_tup pa_nil) (pa_cons pe_int pa_nil)))) pa_nil)))
    (pss_cons (ps_while PassesOwn.never (pt_truth (pv 3) (fun _ => rfl))
      (pss_cons (ps_asg (pe_bm0 PySem.F.plainAttrs_list PySem.F.slot_list_pop PySem.F.type_list_pop mt_pop (pv 3)) (pg_tup rfl (pgs_cons (pg_name (i := 4) scFree.nd rfl (Or.inl rfl)) (pgs_cons (pg_name (i := 5) scFree.nd rfl (Or.inl rfl)) (pgs_cons (pg_name (i := 6) scFree.nd rfl (Or.inl rfl)) pgs_nil)))))
    (pss_one (ps_if (pt_cmpR op_ne (pv 6) pe_int (nomark _))
      (pss_one (ps_for PassesOwn.never rfl (pi_tup (pv 5)) (pg_name (i := 7) scFree.nd rfl (Or.inl rfl))
      (pss_one (ps_dput hu (pv 2) (pv 7) (pe_op op_add (pe_dget2 hu (pv 2) (pv 7) pe_int ⟨rfl, rfl, rfl, rfl⟩) (pv 6)) rfl))))
      (pss_cons (ps_for PassesOwn.never rfl (pi_tup (C8.pe_c catoms_of hr (by decide) rfl (pa_cons (pv 4) pa_nil))) (pg_name (i := 8) scFree.nd rfl (Or.inl rfl))
      (pss_one (ps_if (PW.pt (pw_and (pt_val (pe_callB call_isi rfl T.zisinstance boot_isinstance (pa_cons (pv 8) (pa_cons (pe_bltn (v := .ty "str") rfl T.zstr boot_str rfl) pa_nil)))) (pw_and1 (pt_cmpR op_eq (pe_dget2 hu (pv 2) (pv 8) pe_int ⟨rfl, rfl, rfl, rfl⟩) pe_int (nomark _)))))
      (pss_one (ps_dput hu (pv 1) (pv 8) pe_bl rfl))
      pss_nil)))
    (pss_one (ps_for PassesOwn.never rfl (pi_list (C8.pe_c cinner_of hr (by decide) rfl (pa_cons (pv 4) pa_nil))) (pg_tup rfl (pgs_cons (pg_name (i := 9) scFree.nd rfl (Or.inl rfl)) (pgs_cons (pg_name (i := 10) scFree.nd rfl (Or.inl rfl)) pgs_nil)))
      (pss_one (ps_expr (pe_bm PySem.F.plainAttrs_list PySem.F.slot_list_extend PySem.F.type_list_extend mt_extend (pv 3) (pa_cons (pe_lst (pa_cons (pe_tup (pa_cons pe_non (pa_cons (pv 9) (pa_cons (pe_un un_neg pe_int) pa_nil)))) (pa_cons (pe_tup (pa_cons (pv 10) (pa_cons (pe_tup pa_nil) (pa_cons pe_int pa_nil)))) (pa_cons (pe_tup (pa_cons pe_non (pa_cons (pv 9) (pa_cons pe_int pa_nil)))) pa_nil)))) pa_nil)))))))))))
    (pss_one (ps_ret (pe_callTy (call_listD rfl) rfl T.zlist boot_list (pa_cons (pv 1) pa_nil)))))))), ?_⟩
  intro fd0 hfd
  have s0 := same_new hfd (.dK [])
  have e0 : upd H fd0 (.dK []) fd0 = some (.dK (setS [])) := upd_same
  generalize upd H fd0 (.dK []) = H1 at s0 e0 ⊢
  intro bd hbd
  have s1 := same_new hbd (.dK [])
  have e1 : upd H1 bd (.dK []) bd = some (.dK []) := upd_same
  have hbdH := free_of s0 hbd
  have nfb : fd0 ≠ bd := fun z => by rw [← z, e0] at hbd; cases hbd
  generalize upd H1 bd (.dK []) = H2 at s1 e1 ⊢
  refine ⟨_, rfl, by show 0 ≤ sizeLine; decide, fun u0 hu0 => ⟨by show 3 ≤ sizeLine; decide, fun tp htp => ⟨by show 1 ≤ sizeLine; decide, fun td htd => ?_⟩⟩⟩
  have s2 := same_new hu0 (.tup [])
  have s3 := same_new htp (.tup [v, .ref u0, .int 0])
  have s4 := same_new htd (.lst [.ref tp])
  have e4 : upd (upd (upd H2 u0 (.tup [])) tp (.tup [v, .ref u0, .int 0])) td (.lst [.ref tp]) td = some (.lst [.ref tp]) := upd_same
  have st0 : (tkD (.vis k)).At (Ex H) (upd (upd (upd H2 u0 (.tup [])) tp (.tup [v, .ref u0, .int 0])) td (.lst [.ref tp])) (.ref tp) :=
    at_tup (s4 _ _ upd_same) (ats_cons (hat.keep (fr_same (sameT s0 (sameT s1 (sameT s2 (sameT s3 s4)))))) (ats_cons (at_nameT (zs := []) (s4 _ _ (s3 _ _ upd_same)) fun y hy => by cases hy) (ats_cons at_int' ats_nil)))
  have ef := sameT s1 (sameT s2 (sameT s3 s4)) _ _ e0
  have eb := sameT s2 (sameT s3 s4) _ _ e1
  have sA := sameT s0 (sameT s1 (sameT s2 (sameT s3 s4)))
  have htdH := free_of (sameT s0 (sameT s1 (sameT s2 s3))) htd
  have nft : fd0 ≠ td := fun z => by rw [← z, sameT s1 (sameT s2 s3) _ _ e0] at htd; cases htd
  have nbt : bd ≠ td := fun z => by rw [← z, sameT s2 s3 _ _ e1] at htd; cases htd
  generalize upd (upd (upd H2 u0 (.tup [])) tp (.tup [v, .ref u0, .int 0])) td (.lst [.ref tp]) = H3 at e4 st0 ef eb sA ⊢
  clear s0 e0 s1 e1 s2 s3 s4 hbd hu0 htp htd
  have ntd : ¬ Ex H td := fun z => z htdH
  refine ⟨fun n' σ G => ∃ (kF : List Str) (kvs : List (Key × V)) (c : Str → Int) (st : List Tk) (xs : List V) (v4 v5 v6 v7 v8 v9 v10 : Option V), n' = wts st ∧ σ = [some v, some (.ref fd0), some (.ref bd), some (.ref td), v4, v5, v6, v7, v8, v9, v10] ∧ Same H G ∧ G fd0 = some (.dK (setS kF)) ∧ kF.Nodup ∧ G bd = some (.dK kvs) ∧ BAt kvs c U ∧ G td = some (.lst xs) ∧ Dd.Ats (Ex H) G (st.map tkD) xs ∧ (∀ t ∈ st, tkOk U t) ∧ okS c st.reverse ∧ kF.length + vsz st ≤ k.sz ∧ wts st ≤ 3 * k.sz ∧ ∀ s, (s ∈ kF ∨ frS c st.reverse s) ↔ fr k s,
    ⟨_, [], [], fun _ => 0, [.vis k], [.ref tp], none, none, none, none, none, none, none, rfl, rfl, sA, ef, List.nodup_nil, eb, ⟨fun s => rfl, [], rfl, List.nodup_nil, fun s h => by cases h⟩, e4, ats_one st0, fun t ht => by rw [List.mem_singleton.mp ht]; exact hgl, ⟨fun s => Int.le_refl 0, trivial⟩, by show 0 + (k.sz + 0) ≤ _; omega, by show (3 * k.sz - 2) + 0 ≤ _; omega, fun s => ?_⟩, ?_⟩
  · constructor
    · rintro (h | ⟨h, _⟩ | h)
      · cases h
      · exact h
      · exact h.elim
    · exact fun h => .inr (.inl ⟨h, rfl⟩)
  rintro n' σ G ⟨kF, kvs, c, st, xs, v4, v5, v6, v7, v8, v9, v10, rfl, rfl, sG, hfG, nod, hbG, BA, htG, hats, hgood, hokS, hvs, hwt, hfr⟩
  have hlx := ats_len hats
  rw [List.length_map] at hlx
  have hlw := wts_len st
  refine ⟨_, rfl, _, .inl ⟨_, SqL.of htG, rfl⟩, ?_⟩
  rcases List.eq_nil_or_concat st with rfl | ⟨M, t, rfl⟩
  · cases (show xs = [] from hats)
    refine iteF ?_
    refine ⟨_, rfl, fd0, _, rfl, .inl hfG, fun L hL => ?_⟩
    have eL : ((setS kF).map fun kv => kV kv.1) = kF.map V.str := by
      unfold setS
      rw [List.map_map]
      rfl
    rw [eL]
    refine q L kF _ (sameT sG (same_new hL _)) (free_of sG hL) upd_same nod (fun s => ?_) (by omega)
    rw [← hfr s]
    exact ⟨.inl, fun h => h.elim id fun z => z.elim⟩
  rw [List.concat_eq_append] at *
  rw [List.map_append] at hats
  obtain ⟨xs', x, rfl, hats', hx⟩ := ats_snoc hats
  have ne : (!(xs' ++ [x]).isEmpty) = true := by cases xs' <;> rfl
  rw [ne]
  refine iteT ?_
  refine ⟨fun σ' G' => ∃ (kF : List Str) (kvs : List (Key × V)) (c : Str → Int) (st : List Tk) (xs : List V) (v4 v5 v6 v7 v8 v9 v10 : Option V), wts st < wts (M ++ [t]) ∧ σ' = [some v, some (.ref fd0), some (.ref bd), some (.ref td), v4, v5, v6, v7, v8, v9, v10] ∧ Same H G' ∧ G' fd0 = some (.dK (setS kF)) ∧ kF.Nodup ∧ G' bd = some (.dK kvs) ∧ BAt kvs c U ∧ G' td = some (.lst xs) ∧ Dd.Ats (Ex H) G' (st.map tkD) xs ∧ (∀ t ∈ st, tkOk U t) ∧ okS c st.reverse ∧ kF.length + vsz st ≤ k.sz ∧ wts st ≤ 3 * k.sz ∧ ∀ s, (s ∈ kF ∨ frS c st.reverse s) ↔ fr k s,
    fun σ' G' ⟨kF, kvs, c, st, xs, v4, v5, v6, v7, v8, v9, v10, lt, rest⟩ => ⟨_, lt, kF, kvs, c, st, xs, v4, v5, v6, v7, v8, v9, v10, rfl, rest⟩, ?_⟩
  have hgM : ∀ t' ∈ M, tkOk U t' := fun t' h => hgood t' (List.mem_append_left _ h)
  have hgt := hgood t (List.mem_append_right _ (List.mem_singleton.mpr rfl))
  rw [List.reverse_append] at hokS hfr
  rw [vsz_app] at hvs
  rw [wts_app] at hwt hlw ⊢
  have hlM := wts_len M
  have hl1 := ats_len hats'
  rw [List.length_map] at hl1
  have f4 : Fr (Ex H) G (upd G td (.lst xs')) := fr_list htG ntd
  have s4 : Same H (upd G td (.lst xs')) := same_upd htdH sG _
  have h4 : upd G td (.lst xs') td = some (.lst xs') := upd_same
  have hf4 : upd G td (.lst xs') fd0 = some (.dK (setS kF)) := by rw [upd_ne nft]; exact hfG
  have hb4 : upd G td (.lst xs') bd = some (.dK kvs) := by rw [upd_ne nbt]; exact hbG
  cases t with
  | chg ns d =>
    obtain ⟨tt, zs3, rfl, htt2, y0, ys0, rfl, hy0, y1, ys1, rfl, hy1, y2, ys2, rfl, hy2, hn⟩ := hx
    cases (show ys2 = [] from hn)
    cases (show y0 = .non from hy0)
    cases (show y2 = .int d from hy2)
    obtain ⟨u, rfl, hu1, hu2⟩ := nameT_at hy1
    have hq1 : upd G td (.lst (xs' ++ [V.ref tt]).dropLast) tt = some (.tup [.non, .ref u, .int d]) := by
      rw [List.dropLast_concat]
      exact f4.1 _ _ htt2
    refine ⟨_, rfl, .inl ⟨rfl, _, SqL.of htG⟩, td, _, .ref tt, rfl, rfl, htG, by simp, tt, _, rfl, SqT.of hq1, rfl, _, _, rfl, _, _, rfl, _, _, rfl, rfl, ?_⟩
    rw [List.dropLast_concat]
    replace hats' := hats'.keep f4
    replace hu1 := f4.1 _ _ hu1
    generalize upd G td (.lst xs') = G4 at f4 s4 h4 hf4 hb4 hats' hu1 ⊢
    refine ⟨_, rfl, rfl, _, rfl, ?_⟩
    have hd0 : d ≠ 0 := by rcases hgt.2 with e | e <;> rw [e] <;> decide
    show if (!decide (V.int d = V.int 0)) = true then _ else _
    rw [decide_eq_false fun e => hd0 (V.int.inj e)]
    refine iteT ?_
    refine ⟨_, rfl, u, rfl, ⟨_, SqT.of hu1⟩, for_tup (a := u) (xs := ns.map V.str)
      (fun i σ G' => ∃ (kvs : List (Key × V)) (v7 : Option V), σ = [some v, some (.ref fd0), some (.ref bd), some (.ref td), some .non, some (.ref u), some (.int d), v7, v8, v9, v10] ∧ Same H G' ∧ G' fd0 = some (.dK (setS kF)) ∧ G' bd = some (.dK kvs) ∧ BAt kvs (bump c (ns.take i) d) U ∧ G' td = some (.lst xs') ∧ Dd.Ats (Ex H) G' (M.map tkD) xs' ∧ G' u = some (.tup (ns.map V.str)))
      ⟨kvs, v7, rfl, s4, hf4, hb4, by rw [List.take_zero, bump_nil]; exact BA, h4, hats', hu1⟩ (fun i σ G' _ ⟨_, _, _, _, _, _, _, _, _, h⟩ => SqT.of h) ?_ ?_⟩
    · rintro i x σ G' hxi ⟨kvs, v7, rfl, sG', hfG', hbG', BA', htG', hats2, hu3⟩
      obtain ⟨y, hy, rfl⟩ : ∃ y, ns[i]? = some y ∧ x = .str y := by
        rw [List.getElem?_map] at hxi
        cases e : ns[i]? with
        | none => rw [e] at hxi; cases hxi
        | some y => rw [e] at hxi; exact ⟨y, rfl, (Option.some.inj hxi).symm⟩
      have hyU := hgt.1 y (List.mem_of_getElem? hy)
      have hkl := BA'.len
      refine ⟨_, rfl, bd, rfl, .inl ⟨_, .inl hbG'⟩, _, rfl, _, DGet.k (k := Sum.inr y) hbG', _, rfl, _, _, BA'.val y, rfl, _, rfl, _, rfl, bd, _, rfl, DPut.k (k := Sum.inr y) hbG' (by omega), ?_⟩
      have f9 : Fr (Ex H) G' (upd G' bd (.dK (putK kvs (Sum.inr y) (.int (bump c (ns.take i) d y + d))))) := fr_dict hbG'
      refine ⟨_, _, rfl, same_upd hbdH sG' _, by rw [upd_ne nfb]; exact hfG', upd_same, ?_, by rw [upd_ne nbt.symm]; exact htG', hats2.keep f9, f9.1 _ _ hu3⟩
      rw [List.take_add_one, hy]
      show BAt _ (bump c (ns.take i ++ [y]) d) _
      rw [← bump_snoc]
      exact BA'.put d hyU
    rintro σ G' ⟨kvs, v7, rfl, sG', hfG', hbG', BA', htG', hats2, hu3⟩
    rw [List.length_map, List.take_length] at BA'
    refine ⟨kF, kvs, bump c ns d, M, xs', _, _, _, _, _, _, _, ?_, rfl, sG', hfG', nod, hbG', BA', htG', hats2, hgM, hokS, ?_, ?_, hfr⟩
    · show wts M < wts M + (1 + 0)
      omega
    · have hvs : kF.length + (vsz M + 0) ≤ k.sz := hvs
      omega
    · omega
  | vis p =>
    obtain ⟨tt, zs3, rfl, htt2, y0, ys0, rfl, hy0, y1, ys1, rfl, hy1, y2, ys2, rfl, hy2, hn⟩ := hx
    cases (show ys2 = [] from hn)
    cases (show y2 = .int 0 from hy2)
    obtain ⟨u, rfl, hu1, hu2⟩ := nameT_at hy1
    obtain ⟨z, r, rfl, hao, hio, hatm, _, hin⟩ := gl_parts (show gl U p from hgt)
    have hai := atoms_inner hio
    have hps := inner_sz hio
    have hvs : kF.length + (vsz M + ((Dd.tup (.str z :: r)).sz + 0)) ≤ k.sz := hvs
    have hwt : wts M + ((3 * (Dd.tup (.str z :: r)).sz - 2) + 0) ≤ 3 * k.sz := hwt
    have hpz := sz_pos (Dd.tup (.str z :: r))
    have hq1 : upd G td (.lst (xs' ++ [V.ref tt]).dropLast) tt = some (.tup [y0, .ref u, .int 0]) := by
      rw [List.dropLast_concat]
      exact f4.1 _ _ htt2
    refine ⟨_, rfl, .inl ⟨rfl, _, SqL.of htG⟩, td, _, .ref tt, rfl, rfl, htG, by simp, tt, _, rfl, SqT.of hq1, rfl, _, _, rfl, _, _, rfl, _, _, rfl, rfl, ?_⟩
    rw [List.dropLast_concat]
    replace hats' := hats'.keep f4
    replace hy0 := hy0.keep f4
    generalize upd G td (.lst xs') = G4 at f4 s4 h4 hf4 hb4 hats' hy0 ⊢
    refine ⟨_, rfl, rfl, _, rfl, ?_⟩
    show if (!decide (V.int 0 = V.int 0)) = true then _ else _
    rw [decide_eq_true rfl]
    refine iteF ?_
    have hcp : ∀ s, 0 ≤ c s := hokS.1
    have hokM : okS c M.reverse := hokS.2
    obtain ⟨a, ys, rfl, ha, hys, hyl, hzl⟩ := head_at hy0
    refine ⟨_, rfl, Ex H, .ref a, z, r, rfl, hy0, hao, by omega, fun ua ax G5 s5 eu5 hax => ?_⟩
    have hxl5 := ats_len hax
    have sG5 := sameT s4 s5
    have h5 := s5 _ _ h4
    have hf5 := s5 _ _ hf4
    have hb5 := s5 _ _ hb4
    have hM5 := hats'.keep (fr_same s5)
    have hy5 := hy0.keep (fr_same s5)
    refine ⟨ua, rfl, ⟨_, SqT.of eu5⟩, for_tup (a := ua) (xs := ax)
      (fun i σ G' => ∃ (v8 : Option V), σ = [some v, some (.ref fd0), some (.ref bd), some (.ref td), some (.ref a), some (.ref u), some (.int 0), v7, v8, v9, v10] ∧ Same H G' ∧ Fr (Ex H) G5 G' ∧ G' fd0 = some (.dK (setS (addA c ((atomsW z r).take i) kF))) ∧ G' bd = some (.dK kvs) ∧ G' td = some (.lst xs'))
      ⟨v8, rfl, sG5, Fr.refl _ _, hf5, hb5, h5⟩ (fun i σ G' _ ⟨_, _, _, f, _⟩ => SqT.of (f.1 _ _ eu5)) ?_ ?_⟩
    · rintro i x σ G' hxi ⟨v8, rfl, sG', fG', hfG', hbG', htG'⟩
      obtain ⟨kk, hk, hkat⟩ := ats_get hax hxi
      have hkm : kk ∈ atomsW z r := List.mem_of_getElem? hk
      have hka := hatm kk hkm
      have hil := (List.getElem?_eq_some_iff.mp hk).1
      have e1 : (atomsW z r).take (i + 1) = (atomsW z r).take i ++ [kk] := by rw [List.take_add_one, hk]; rfl
      obtain ⟨g1, g2, g3⟩ := addA_ok (c := c) (l := (atomsW z r).take i) nod
      rw [List.length_take] at g2
      match kk, hka with
      | .int n, _ =>
        refine ⟨_, rfl, x, .ty "str", _, _, _, rfl, .ty "str", ty_of (k := .int n) (hkat.keep fG'), kit_str (.int n), ?_⟩
        refine ⟨_, rfl, ?_⟩
        refine iteF ?_
        refine iteF ?_
        refine ⟨_, rfl, sG', fG', ?_, hbG', htG'⟩
        rw [e1, addA_snoc]
        exact hfG'
      | .str n, _ =>
        refine ⟨_, rfl, x, .ty "str", _, _, _, rfl, .ty "str", ty_of (k := .str n) (hkat.keep fG'), kit_str (.str n), ?_⟩
        obtain ⟨rfl, _⟩ := (show x = .str n ∧ _ from hkat)
        refine ⟨_, rfl, ?_⟩
        refine iteT ?_
        refine ⟨_, rfl, bd, rfl, .inl ⟨_, .inl hbG'⟩, _, rfl, _, DGet.k (k := Sum.inr n) hbG', ?_⟩
        rw [BA.val n]
        refine ⟨rfl, _, rfl, ?_⟩
        by_cases c0 : c n = 0
        · rw [c0]
          show if decide (V.int 0 = V.int 0) = true then _ else _
          rw [decide_eq_true rfl]
          refine iteT ?_
          refine ⟨_, rfl, _, rfl, fd0, _, rfl, DPut.k (k := Sum.inr n) hfG' (by unfold setS; rw [List.length_map]; omega), ?_⟩
          refine ⟨_, rfl, same_upd hfd sG' _, fG'.trans (fr_dict hfG'), ?_, by rw [upd_ne nfb.symm]; exact hbG', by rw [upd_ne nft.symm]; exact htG'⟩
          rw [upd_same, put_setS, e1, addA_snoc]
          show some (HO.dK (setS _)) = some (.dK (setS (if c n = 0 then _ else _)))
          rw [if_pos c0]
        · show if decide (V.int (c n) = V.int 0) = true then _ else _
          rw [decide_eq_false fun e => c0 (V.int.inj e)]
          refine iteF ?_
          refine ⟨_, rfl, sG', fG', ?_, hbG', htG'⟩
          rw [e1, addA_snoc]
          show _ = some (HO.dK (setS (if c n = 0 then _ else _)))
          rw [if_neg c0]
          exact hfG'
    rintro σ G6 ⟨v8, rfl, sG6, fG6, hfG6, hbG6, htG6⟩
    rw [hxl5, List.take_length] at hfG6
    obtain ⟨nod6, len6, mem6⟩ := addA_ok (c := c) (l := atomsW z r) nod
    refine ⟨_, rfl, Ex H, .ref a, z, r, rfl, hy5.keep fG6, hio, by omega, fun L1 zs G7 s7 hL1 e7 hzs => ?_⟩
    have hzl := ats_len hzs
    rw [List.length_map] at hzl
    have s67 := sameT sG6 s7
    have h7 := s7 _ _ htG6
    have nL1 : L1 ≠ td := fun e => by rw [e, htG6] at hL1; cases hL1
    have hM7 := (hM5.keep fG6).keep (fr_same s7)
    have hil := szs_len ((innerW z r).map (·.2))
    rw [List.length_map] at hil
    have hlM2 := wts_len M
    have hVM : ∀ l : List Tk, True := fun _ => trivial
    refine ⟨L1, rfl, ⟨_, SqL.of e7⟩, for_list (a := L1) (xs := zs)
      (fun i σ G' => ∃ (v8 v9 v10 : Option V) (xs2 : List V), σ = [some v, some (.ref fd0), some (.ref bd), some (.ref td), some (.ref a), some (.ref u), some (.int 0), v7, v8, v9, v10] ∧ Same H G' ∧ Fr (Ex H) G7 G' ∧ G' fd0 = some (.dK (setS (addA c (atomsW z r) kF))) ∧ G' bd = some (.dK kvs) ∧ G' td = some (.lst xs2) ∧ G' L1 = some (.lst zs) ∧ Dd.Ats (Ex H) G' ((M ++ (((innerW z r).take i).map tripR).flatten).map tkD) xs2)
      ⟨_, _, _, xs', rfl, s67, Fr.refl _ _, s7 _ _ hfG6, s7 _ _ hbG6, h7, e7, by rw [List.take_zero]; show Dd.Ats _ _ ((M ++ []).map tkD) _; rw [List.append_nil]; exact hM7⟩
      (fun i σ G' _ ⟨_, _, _, _, _, _, _, _, _, _, h, _⟩ => SqL.of h) ?_ ?_⟩
    · rintro i x σ G' hxi ⟨v8, v9, v10, xs2, rfl, sG', fG', hfG', hbG', htG', hLG', hats2⟩
      obtain ⟨pk, hpk, hpka⟩ := ats_get hzs hxi
      rw [List.getElem?_map] at hpk
      obtain ⟨q5, hq5, rfl⟩ := Option.map_eq_some_iff.mp hpk
      have hiq : i < (innerW z r).length := (List.getElem?_eq_some_iff.mp hq5).1
      obtain ⟨t2, xn, pp, rfl, et2, hn2, hp2⟩ := pair_at (m := [nameT q5.1, q5.2]) (hpka.keep fG') rfl
      obtain ⟨u5, rfl, hu5, hu6⟩ := nameT_at hn2
      have hl2 := ats_len hats2
      rw [List.length_map, List.length_append, len_trips, List.length_take] at hl2
      refine ⟨t2, _, rfl, SqT.of et2, rfl, _, _, rfl, _, _, rfl, rfl, ?_⟩
      refine ⟨_, rfl, .inl ⟨rfl, _, SqL.of htG'⟩, _, rfl, _, rfl, by show 3 ≤ sizeLine; decide, fun t1 ht1 => ?_⟩
      refine ⟨_, rfl, by show 0 ≤ sizeLine; decide, fun u2 hu2' => ⟨by show 3 ≤ sizeLine; decide, fun t3 ht3 => ⟨_, rfl, by show 3 ≤ sizeLine; decide, fun t4 ht4 => ⟨by show 3 ≤ sizeLine; decide, fun l4 hl4 => ?_⟩⟩⟩⟩
      have a1 := same_new ht1 (.tup [.non, .ref u5, .int (-1)])
      have a2 := same_new hu2' (.tup [])
      have a3 := same_new ht3 (.tup [pp, .ref u2, .int 0])
      have a4 := same_new ht4 (.tup [.non, .ref u5, .int 1])
      have a5 := same_new hl4 (.lst [.ref t1, .ref t3, .ref t4])
      have a45 := sameT a4 a5
      have a345 := sameT a3 a45
      have a2345 := sameT a2 a345
      have aA := sameT a1 a2345
      have b1 : (tkD (.chg q5.1 (-1))).At (Ex H) _ (.ref t1) := at_tup (a2345 _ _ upd_same) (ats_cons (show (Dd.non).At _ _ V.non from rfl) (ats_cons (at_nameT (aA _ _ hu5) hu6) (ats_cons at_int' ats_nil)))
      have b2 : (tkD (.vis q5.2)).At (Ex H) _ (.ref t3) := at_tup (a45 _ _ upd_same) (ats_cons (hp2.keep (fr_same aA)) (ats_cons (at_nameT (zs := []) (a345 _ _ upd_same) fun y hy => by cases hy) (ats_cons at_int' ats_nil)))
      have b3 : (tkD (.chg q5.1 1)).At (Ex H) _ (.ref t4) := at_tup (a5 _ _ upd_same) (ats_cons (show (Dd.non).At _ _ V.non from rfl) (ats_cons (at_nameT (aA _ _ hu5) hu6) (ats_cons at_int' ats_nil)))
      have bL : Dd.Ats (Ex H) _ ((tripR q5).map tkD) [.ref t1, .ref t3, .ref t4] := ats_cons b1 (ats_cons b2 (ats_one b3))
      have hl9 := (fun z => z : upd (upd (upd (upd (upd G' t1 (.tup [.non, .ref u5, .int (-1)])) u2 (.tup [])) t3 (.tup [pp, .ref u2, .int 0])) t4 (.tup [.non, .ref u5, .int 1])) l4 (.lst [.ref t1, .ref t3, .ref t4]) l4 = some (.lst [.ref t1, .ref t3, .ref t4]) → _) upd_same
      replace hats2 := hats2.keep (fr_same aA)
      replace htG' := aA _ _ htG'
      replace hLG' := aA _ _ hLG'
      replace hfG' := aA _ _ hfG'
      replace hbG' := aA _ _ hbG'
      replace fG' := fG'.trans (fr_same aA)
      replace sG' := sameT sG' aA
      generalize upd (upd (upd (upd (upd G' t1 (.tup [.non, .ref u5, .int (-1)])) u2 (.tup [])) t3 (.tup [pp, .ref u2, .int 0])) t4 (.tup [.non, .ref u5, .int 1])) l4 (.lst [.ref t1, .ref t3, .ref t4]) = G9 at hats2 htG' hLG' hfG' hbG' fG' sG' bL hl9 ⊢
      have hmin := Nat.min_le_left i (innerW z r).length
      refine ⟨td, l4, xs2, _, rfl, rfl, htG', hl9, ?_, ?_⟩
      · show xs2.length + 3 ≤ _
        omega
      have f10 : Fr (Ex H) G9 (upd G9 td (.lst (xs2 ++ [.ref t1, .ref t3, .ref t4]))) := fr_list htG' ntd
      refine ⟨_, _, _, _, rfl, same_upd htdH sG' _, fG'.trans f10, by rw [upd_ne nft]; exact hfG', by rw [upd_ne nbt]; exact hbG', upd_same, by rw [upd_ne nL1]; exact hLG', ?_⟩
      rw [tk_take hq5, ← List.append_assoc, List.map_append]
      exact ats_app (hats2.keep f10) (bL.keep f10)
    rintro σ G8 ⟨v8', v9', v10', xs2, rfl, sG8, fG8, hfG8, hbG8, htG8, hLG8, hats8⟩
    rw [hzl, List.take_length] at hats8
    refine ⟨_, kvs, c, M ++ ((innerW z r).map tripR).flatten, xs2, _, _, _, _, _, _, _, ?_, rfl, sG8, hfG8, nod6, hbG8, BA, htG8, hats8, fun t ht => ?_, ?_, ?_, ?_, fun s => ?_⟩
    · rw [wts_app, wts_trips]
      show wts M + _ < wts M + ((3 * (Dd.tup (.str z :: r)).sz - 2) + 0)
      omega
    · rcases List.mem_append.mp ht with h | h
      · exact hgM t h
      · obtain ⟨l, hl, htl⟩ := List.mem_flatten.mp h
        obtain ⟨q5, hq5, rfl⟩ := List.mem_map.mp hl
        have hq := hin q5 hq5
        simp only [tripR, List.mem_cons, List.not_mem_nil, or_false] at htl
        rcases htl with rfl | rfl | rfl
        · exact ⟨hq.1, .inr rfl⟩
        · exact hq.2
        · exact ⟨hq.1, .inl rfl⟩
    · rw [List.reverse_append, trips_rev]
      exact okS_trips _ _ _ hcp hokM
    · rw [vsz_app, vsz_trips]
      omega
    · rw [wts_app, wts_trips]
      omega
    · rw [List.reverse_append, trips_rev, frS_trips _ _ _ _ hcp, mem6, ← hfr s]
      show _ ↔ s ∈ kF ∨ ((fr (Dd.tup (.str z :: r)) s ∧ c s = 0) ∨ frS c M.reverse s)
      rw [rev_frs, fr_eq]
      constructor
      · rintro ((h | ⟨h, k⟩) | ⟨h, k⟩ | h)
        · exact .inl h
        · exact .inr (.inl ⟨.inl h, k⟩)
        · exact .inr (.inl ⟨.inr h, k⟩)
        · exact .inr (.inr h)
      · rintro (h | ⟨h | h, k⟩ | h)
        · exact .inl (.inl h)
        · exact .inl (.inr ⟨h, k⟩)
        · exact .inr (.inl ⟨h, k⟩)
        · exact .inr (.inr h)
end
end Toy

set_option Elab.async false
set_option linter.all false
set_option maxRecDepth 100000
set_option maxHeartbeats 4000000
/-! Part E6: own rules: an error that leaves a comprehension. -/
namespace L2
open PySem PySem.Spec PyProof.Rows
section
variable {X : Cx} {pins : List (Addr × Obj)} {σ : St} {H H1 : Hp} {s sI s' : Shared}
/-- the frames stay where all but one address stays -/
theorem frames_move {h1 h2 B B' : Heap} (k : ∀ b, B.get? b = none → B'.get? b = none ∧ h2.get? b = h1.get? b) : ∀ {l : List Env}, h1.FunFrames B l → h2.FunFrames B' l
  | [], _ => trivial
  | env :: rest, ⟨hk, ⟨L, o, hf, hn, ho, hd⟩, hr⟩ => ⟨hk, ⟨L, o, hf, (k L hn).1, (k L hn).2.trans ho, hd⟩, frames_move k hr⟩
/-- a call's error passes a comprehension's block: its variables are let go, the frame's own flight is set -/
theorem air_comp {E : XK} (tk : Takes X (fun cls d _ H => E cls d H)) (hs : X.stack = X.env :: X.outer) (hf : X.env.frame = some X.env.locals) (I0 : Inv X pins σ H1 sI) {u : Value} (c : CX X.prog X.w X.stack H1 sI E u s')
    {C : Addr} {m : Str → Option Value} (hC : FpOk X pins H1 C) (hN : sI.heap.Ns C m) {ce : Env} (hce : ce.frame = X.env.frame) :
    notedBy (model X.prog X.w) X.A ce (fun e s'' => ∃ m, s''.heap.Ns C m ∧ ∀ h', Heap.SameBut C s''.heap h' → ∀ cenv : Env, cenv.locals = C → cenv.frame = some X.env.locals →
      wpAny (model X.prog X.w) X.A (PySem.passOn "comprehension.variables-let-go" e cenv : Sem Value) (fun _ _ => False) X.xe { s'' with heap := h' }) u s' := by
  obtain ⟨a, B, H2, cls, d, rfl, fl, hok, ub, na, os, ag, hE⟩ := c
  obtain ⟨c0, c1, c2, c3, c4, c5⟩ := hC
  obtain ⟨oC, es, ep, hoC, hdC, kC, nC⟩ := hN
  have hfr : X.A.frames = some (X.env :: X.outer) := by rw [I0.ok.frames, hs]
  have cst : C ∉ frs X.stack := fun z => (List.mem_cons.mp (I0.stkSub C z)).elim c1 c2
  have hB : B.get? C = some oC := ub.keep C oC hoC c0 cst
  have h2C : H2 C = none := ub.free C oC hoC c0
  show wpAny _ _ (noteFrame (.ref a) ce) _ _ _
  rw [show noteFrame (.ref a) ce = noteFrame (.ref a) X.env by unfold noteFrame PySem.frameOf; rw [hce]]
  rw [hs] at fl
  refine HandSPX.looks_onZ Zc.steady hfr hf fl fun h1 hh up => ?_
  obtain ⟨k1, ha, ff, oe, vs, T, oT, ts, he, hz, hd, hv1, hnT, hTe, hT, hdT, h3⟩ := hh
  refine ⟨m, ⟨oC, es, ep, k1 _ _ hB, hdC, kC, nC⟩, fun h2 sb cenv hcl hcf => ?_⟩
  have naC : a ≠ C := fun z => by rw [z, hB] at ha; cases ha
  have nTC : T ≠ C := fun z => by rw [z, hB] at hnT; cases hnT
  have off : ∀ b, B.get? b = none → h2.get? b = h1.get? b := fun b e => sb.2 b fun z => by rw [z, hB] at e; cases e
  have he2 := (sb.2 a naC).trans he
  have hT2 := (sb.2 T nTC).trans hT
  obtain ⟨B', b1, b2⟩ := restrict h2 fun b => (B.get? b).isSome && decide (b ≠ C)
  have bno : ∀ b, B.get? b = none → B'.get? b = none := fun b e => b2 b (by rw [e]; rfl)
  have st2 : B'.StaysIn h2 := fun b o e => by
    cases q : ((B.get? b).isSome && decide (b ≠ C)) with
    | false => rw [b2 b q] at e; cases e
    | true => rw [← b1 b q]; exact e
  have ff2 : h2.FunFrames B' (X.env :: X.outer) := frames_move (fun b e => ⟨bno b e, off b e⟩) ff
  have tr2 : HandSPX.TracedZ h2 B' a (Zc cls d) (rawInt X.env.locals) := ⟨oe, vs, T, oT, ts, he2, hz, hd, hv1, bno T hnT, hTe, hT2, hdT, h3⟩
  unfold PySem.passOn
  refine wpAny_bind (wpAny_field (s := { s' with heap := h2 }) he2 hd hv1 ?_)
  rw [if_neg (show ¬ ((Value.ref T == Value.none) = true) from by simp)]
  rw [hcf]
  refine wpAny_bind (HandSPX.setFlight_anyZ (s := { s' with heap := h2 }) st2 ff2 tr2 fun h4 k4 f4 t4 u4 => ?_)
  refine wpAny_throw (tk _ _ ?_)
  obtain ⟨G, g1, g2⟩ := restrict h4 fun b => ((B.get? b).isSome && decide (b ≠ C)) || decide (b ∈ frs X.stack)
  have inB : ∀ b o, B.get? b = some o → b ≠ C → B'.get? b = some o ∧ G.get? b = some o := fun b o e n => by
    have p : ((B.get? b).isSome && decide (b ≠ C)) = true := by rw [e, decide_eq_true n]; rfl
    have q1 : B'.get? b = some o := by rw [b1 b p, sb.2 b n]; exact k1 b o e
    refine ⟨q1, ?_⟩
    rw [g1 b (by rw [p]; rfl)]
    exact k4 b o q1
  have gF : ∀ b, b ∈ frs X.stack → G.get? b = h4.get? b := fun b hb => g1 b (by rw [decide_eq_true hb, Bool.or_true])
  have og : ∀ b o, G.get? b = some o → h4.get? b = some o ∧ (((B.get? b).isSome = true ∧ b ≠ C) ∨ b ∈ frs X.stack) := fun b o e => by
    cases q : (((B.get? b).isSome && decide (b ≠ C)) || decide (b ∈ frs X.stack)) with
    | false => rw [g2 b q] at e; cases e
    | true =>
      rw [g1 b q] at e
      refine ⟨e, ?_⟩
      simpa [Bool.or_eq_true, Bool.and_eq_true] using q
  have slot : ∀ b o, sI.heap.get? b = some o → b ∈ frs X.stack → ∃ sl, G.get? b = some { o with slots := sl } := fun b o e hb => by
    obtain ⟨sl, q⟩ := ub.slot b o e hb
    have hb' : b ∈ (X.env :: X.outer).filterMap (·.frame) := by rw [hs] at hb; exact hb
    obtain ⟨z0, o', z1, z2⟩ := fl.2.2.1.mem hb'
    rw [q] at z1
    cases z1
    obtain ⟨sl2, e2⟩ := up b _ q z2
    have e3 := (off b z0).trans e2
    obtain ⟨sl3, e4⟩ := u4 b _ e3 z2
    exact ⟨sl3, by rw [gF b hb]; exact e4⟩
  refine ⟨a, B', { sI with heap := G, gens := s'.gens, drawn := s'.drawn, toks := s'.toks }, pins, σ, H2, cls, d, rfl, ?_, fun b o e hb => ?_, Heap.UpToSlots.of_keeps fun b o e => (og b o e).1, .inr (.inr ?_), na, os, ag, hE⟩
  · refine I0.call (ch := [C]) ⟨fun b o e n hb hc => ?_, fun b o e n hb _ => slot b o e hb, fun b o e n _ => ub.free b o e n, fun b o e hc => ?_, ub.tups, ub.frzs, ub.tbls⟩ ?_ ag (fun b hb => ?_)
    · exact (inB b o (ub.keep b o e n hb) fun z => hc (by rw [z]; exact List.mem_singleton.mpr rfl)).2
    · by_cases hb : b ∈ frs X.stack
      · obtain ⟨sl, q⟩ := slot b o e hb
        exact ⟨_, q⟩
      · obtain ⟨o', q⟩ := ub.there b o e hb
        exact ⟨o', (inB b o' q fun z => hc (by rw [z]; exact List.mem_singleton.mpr rfl)).2⟩
    · intro b o e
      refine (hok b o e).stay (fun x v hx q => (inB x v q fun z => ?_).2) (fun _ q => q) fun _ _ q => q
      rcases hx with y | y
      · rw [← y, z, h2C] at e; cases e
      · rw [z, h2C] at y; cases y
    · rw [List.mem_singleton.mp hb]
      exact ⟨c3, c1, c4, c5⟩
  · obtain ⟨e', h⟩ := og b o e
    rcases h with ⟨h, n⟩ | h
    · obtain ⟨o', q⟩ := Option.isSome_iff_exists.mp h
      obtain ⟨q1, _⟩ := inB b o' q n
      have z := k4 b o' q1
      rw [e'] at z
      cases z
      exact q1
    · exact absurd h hb
  · rw [hs]
    exact ⟨k4, bno a ha, f4, t4⟩
end
end L2

set_option Elab.async false
set_option linter.all false
set_option maxRecDepth 100000
set_option maxHeartbeats 4000000
/-! Part F6: own rules: a list comprehension whose elements may raise. -/
namespace PySem
open Sem (wp)
section
variable {M : Model} {A : Around} {E : Value → Shared → Prop} {s : Shared} {env : Env}
/-- what a block leaves, where an error passes with the frame's own flight -/
def compPostF (M : Model) (A : Around) (E : Value → Shared → Prop) (use : Option (Value → Sem Unit)) (Q : Value → Shared → Prop) (fr : Option Addr) (acc : Value) (C : Addr) (r : Result) (s' : Shared) : Prop :=
  match r, use with
  | .ok _, none => ∃ m, s'.heap.Ns C m ∧ ∀ h', Heap.SameBut C s'.heap h' → Q acc { s' with heap := h' }
  | .ok _, some u => wpAny M A (u acc) (fun _ s'' => ∃ m, s''.heap.Ns C m ∧ ∀ h', Heap.SameBut C s''.heap h' → Q .none { s'' with heap := h' }) E s'
  | .error x, _ => ∃ m, s'.heap.Ns C m ∧ ∀ h', Heap.SameBut C s'.heap h' → ∀ cenv : Env, cenv.locals = C → cenv.frame = fr → wpAny M A (PySem.passOn "comprehension.variables-let-go" x cenv : Sem Value) (fun _ _ => False) E { s' with heap := h' }
theorem wpAny_comprehension_freeF {e : Expr} {scope : Scope} {pos : Pos} {newAcc first : Sem Value} {g : Comprehension} {gs : List Comprehension} {cl : List (Str × Addr)} {use : Option (Value → Sem Unit)}
    {Q : Value → Shared → Prop}
    (hcl : clausesOf e = g :: gs) (hs : ∀ x, foldedSetIterable g.iter env x = pure x) (hclos : closureFor scope env = pure cl)
    (hkind : scope.kind = .function) (hnames : ∀ x ∈ scope.names, x.2 = .local → scope.names.lookup x.1 = some .local)
    (h : wpAny M A first (fun x s₁ => wpAny M A (pyIter x) (fun it s₂ => wpAny M A newAcc (fun acc s₃ =>
      wpAny M A (newFunctionEnv scope env.globals cl [] env.qual none .none (some env)) (fun cenv s₄ => cenv.frame = env.frame ∧
        codeAny M A (.compStart e 0 it acc { cenv with scope := relabel scope env }) (compPostF M A E use Q env.frame acc cenv.locals) s₄) E s₃) E s₂) E s₁) E s) :
    wpAny M A (comprehension e scope env pos newAcc false first use) Q E s := by
  unfold comprehension
  rw [hclos, hcl]
  refine wpAny_bind (wpAny_mono h (fun x s₁ h₁ => wpAny_bind (wpAny_standAt (wpAny_bind (wpAny_of_eq (hs x) (wpAny_bind (wpAny_holding (wpAny_mono h₁ (fun it s₂ h₂ =>
    wpAny_standIf (wpAny_bind (wpAny_mono h₂ (fun acc s₃ h₃ => wpAny_bind (wpAny_pure (wpAny_bind (wpAny_mono h₃ (fun cenv s₄ ⟨hfrm, h₄⟩ => ?_) fun _ _ h' => h')))) fun _ _ h' => h')))
      fun _ _ h' => h'))))))) fun _ _ h' => h')
  dsimp only
  have hv : ∀ x ∈ (scope.names.filter fun x => (x.2 == .local || x.2 == .cell) && x.1 != (".0" : Str)).reverse, x.2 = .local →
      Env.kindOf { cenv with scope := relabel scope env } x.1 = some .local := fun x hx hl => lookup_relabel_local (hnames x (List.mem_filter.mp (List.mem_reverse.mp hx)).1 hl)
  have hv' : ∀ x ∈ (scope.names.filter fun x => (x.2 == .local || x.2 == .cell) && x.1 != (".0" : Str)).reverse.drop 1 ++ (scope.names.filter fun x => (x.2 == .local || x.2 == .cell) && x.1 != (".0" : Str)).reverse.take 1,
      x.2 = .local → Env.kindOf { cenv with scope := relabel scope env } x.1 = some .local := fun x hx hl => by
    rcases List.mem_append.mp hx with h1 | h1
    · exact hv x (List.mem_of_mem_drop h1) hl
    · exact hv x (List.mem_of_mem_take h1) hl
  refine wpAny_holding (wpAny_bind (wpAny_attempt (wpAny_holding (wpAny_run (codeAny_mono h₄ fun r s' hr => ?_)))))
  cases r with
  | ok f =>
    cases use with
    | none =>
      obtain ⟨m, hn, hr⟩ := hr
      exact wpAny_bind (wpAny_holding (wpAny_comp_letGo (cenv := { cenv with scope := relabel scope env }) hkind _ s' m hv hn fun h' m' _ hs' => wpAny_pure (hr h' hs')))
    | some u =>
      refine wpAny_bind (wpAny_rule (wpAny_bind (wpAny_holding (wpAny_mono hr (fun _ s'' hr' => ?_) fun _ _ h' => h'))))
      obtain ⟨m, hn, hr'⟩ := hr'
      exact wpAny_bind (wpAny_comp_letGo (cenv := { cenv with scope := relabel scope env }) hkind _ s'' m hv' hn fun h' m' _ hs' => wpAny_pure (hr' h' hs'))
  | error x =>
    have hr' : ∃ m, s'.heap.Ns cenv.locals m ∧ ∀ h', Heap.SameBut cenv.locals s'.heap h' → ∀ cenv' : Env, cenv'.locals = cenv.locals → cenv'.frame = env.frame → wpAny M A (PySem.passOn "comprehension.variables-let-go" x cenv' : Sem Value) (fun _ _ => False) E { s' with heap := h' } := by cases use <;> exact hr
    obtain ⟨m, hn, hr⟩ := hr'
    exact wpAny_bind (wpAny_holding (wpAny_comp_letGo (cenv := { cenv with scope := relabel scope env }) hkind _ s' m hv hn fun h' m' _ hs' => wpAny_mono (hr h' hs' _ rfl hfrm) (fun _ _ f => f.elim) fun _ _ y => y))
end
end PySem
namespace L2
open PySem PySem.Spec PyProof.Rows
/-- the context of a block whose elements may raise -/
abbrev Cx.blkX (X : Cx) (s : Shared) (H : Hp) (scope : Scope) (cenv : Env) (fp : List Addr) (E : XK) : Cx :=
  { X.blk s H scope cenv fp with xe := fun e s' => ∃ (pins : List (Addr × Obj)) (σ : St) (H' : Hp) (s1 : Shared), Inv (X.blk s H scope cenv fp) pins σ H' s1 ∧ CX X.prog X.w X.stack H' s1 E e s' }
section
variable {X : Cx} {pins : List (Addr × Obj)} {σ : St} {H : Hp} {s : Shared}
theorem Cx.Ok.withXe {X : Cx} (ok : X.Ok) (xe : Value → Shared → Prop) : Cx.Ok { X with xe := xe } := by
  obtain ⟨z1, z2, z3, z4, z5, z6, z7, z8, z9, z10, z11, z12, z13, z14, z15, z16, z17, z18⟩ := ok
  exact ⟨z1, z2, z3, z4, z5, z6, z7, z8, z9, z10, z11, z12, z13, z14, z15, z16, z17, z18⟩
theorem Inv.withXe (I : Inv X pins σ H s) (xe : Value → Shared → Prop) : Inv { X with xe := xe } pins σ H s :=
  ⟨I.ok.withXe xe, I.os, I.bare, I.base, I.loc, I.cell, I.free, I.freeC, I.pin, I.hok, I.len⟩
theorem Inv.backXe {xe : Value → Shared → Prop} (ok : X.Ok) (I : Inv { X with xe := xe } pins σ H s) : Inv X pins σ H s :=
  ⟨ok, I.os, I.bare, I.base, I.loc, I.cell, I.free, I.freeC, I.pin, I.hok, I.len⟩
/-- what a callee may let out is taken in such a block -/
theorem passB {scope : Scope} {cenv : Env} {fp : List Addr} {E : XK} {s0 : Shared} {H0 : Hp} (σ : St) : PassesAt (L2.CX X.prog X.w) (X.blkX s0 H0 scope cenv fp E) σ E := by
  intro pins H s e s' I c
  exact ⟨pins, σ, H, s, ⟨⟨I.ok.1, I.ok.2, I.ok.3, I.ok.4, I.ok.5, I.ok.6, I.ok.7, I.ok.8, I.ok.9, I.ok.10, I.ok.11, I.ok.12, I.ok.13, I.ok.14, I.ok.15, I.ok.16, I.ok.17, I.ok.18⟩, I.os, I.bare, I.base, I.loc, I.cell, I.free, I.freeC, I.pin, I.hok, I.len⟩, c⟩
theorem lc_coreX {E : XK} (tk : Takes X (fun cls d _ H => E cls d H)) (hst : X.stack = X.env :: X.outer) (hfm : X.env.frame = some X.env.locals) {pins : List (Addr × Obj)} {s : Shared} {σ : St} {H : Hp} {Q : VK} {elt tg iter : Expr} {ifs : List Expr} {scope : Scope} {own : List (Str × Nat)} {pos pos' : Pos} {wi : TI} {g : TG} {tt : TT} {te : TE} {use : Option (Value → Sem Unit)} {Qf : Value → Shared → Prop}
    (hc : X.calm = true) (hN : X.N.Nodup) (I : Inv X pins σ H s) (hi : PI X tg iter wi) (ok : BlkOk X.N X.env.scope scope own)
    (hg : ∀ (s : Shared) (H : Hp) (C : Addr) (cl : List (Str × Addr)) (fp : List Addr), PG (X.blk s H scope (compEnvC scope cl C X.env) fp) tg g) (ht : ∀ (s : Shared) (H : Hp) (C : Addr) (cl : List (Str × Addr)) (fp : List Addr), PTs (X.blk s H scope (compEnvC scope cl C X.env) fp) ifs tt)
    (he : ∀ (s : Shared) (H : Hp) (C : Addr) (cl : List (Str × Addr)) (fp : List Addr), PE (X.blkX s H scope (compEnvC scope cl C X.env) fp E) elt te) (hs : ∀ x, foldedSetIterable iter X.env x = pure x)
    (h : tLc wi g tt te (own.map (·.2)) σ H Q)
    (hRR : ∀ D C s' m H', Inv X pins σ H' s' → Q (.ref D) H' → s'.heap.Ns C m → FpOk X pins H' C → compPostF (model X.prog X.w) X.A X.xe use Qf X.env.frame (.ref D) C (.ok .next) s') :
    wpAny (model X.prog X.w) X.A (comprehension (.ListComp elt [⟨tg, iter, ifs, 0⟩] scope pos) scope X.env pos' (newList []) false (eval iter X.env) use) Qf X.xe s := by
  have hfree : ∀ y ∈ scope.names, y.2 = .free → ∃ c, X.env.cells.lookup y.1 = some c := fun y hy e => by
    rcases ok.free y hy e with k | k
    · exact I.ok.has _ (.inl k)
    · exact I.ok.has _ (.inr k)
  refine wpAny_comprehension_freeF (use := use) rfl hs (closure_ok hfree) ok.kind (fun y hy e => by rw [ok.uniq y hy, e])
    (thn (hi.run pins s σ H _ I h) fun xv s1 hx => thn hx fun itv s2 h2 => ?_)
  obtain ⟨it, fp, tn, J, H2, e, I2, T, st2, f2, q⟩ := h2
  subst e
  refine wpAny_newObj_type (newEnv_comp ?_) (by show 0 ≤ sizeLine; decide)
  refine ⟨rfl, ?_⟩
  generalize hD : s2.heap.objs.size = D
  have hDn : H2 D = none := I2.hok.fresh (Nat.le_of_eq hD)
  obtain ⟨W, ⟨m0, w0⟩, turn⟩ := q D hDn
  -- the new list
  generalize hs3 : ({ s2 with heap := s2.heap.push { cls := .type "list", data := .seq ([] : List Value).toArray } } : Shared) = s3
  have I3 : Inv X pins σ (upd H2 D (.lst [])) s3 := by
    rw [← hs3]
    refine I2.laid (t' := s2.toks) (fun b o e => Heap.get?_push_of_some _ e) (Nat.le_of_eq hD) ⟨Nat.zero_le _, [], 0, .nil, ?_⟩
    rw [← hD]
    exact Heap.get?_push_size _ rfl
  have h3 : s3.heap = s2.heap.push { cls := .type "list", data := .seq ([] : List Value).toArray } := by rw [← hs3]
  have sz : ∀ b ∈ fp, b < s2.heap.objs.size := fun b hb => by
    obtain ⟨o, e, _⟩ := T.obj _ _ st2 b hb
    exact Heap.lt_size e
  have f3 : ∀ b ∈ fp, FpOk X pins (upd H2 D (.lst [])) b ∧ b < s3.heap.objs.size := fun b hb => by
    have hlt := sz b hb
    refine ⟨⟨?_, (f2 b hb).2⟩, by rw [h3, Heap.size_push]; exact Nat.lt_succ_of_lt hlt⟩
    rw [upd_ne (by rw [← hD]; exact Nat.ne_of_lt hlt)]
    exact (f2 b hb).1
  have st3 : tn 0 s3.heap := T.keep _ _ _ st2 fun b _ o e => by rw [h3]; exact Heap.get?_push_of_some _ e
  have I4 := block_start I3 ok hN f3
  have pg := hg s3 (upd H2 D (.lst [])) s3.heap.objs.size (cellsFrom (s3.heap.objs.size + 1) scope.names (cloFrom X.env.cells scope.names [])) fp
  have pt := ht s3 (upd H2 D (.lst [])) s3.heap.objs.size (cellsFrom (s3.heap.objs.size + 1) scope.names (cloFrom X.env.cells scope.names [])) fp
  have pe := he s3 (upd H2 D (.lst [])) s3.heap.objs.size (cellsFrom (s3.heap.objs.size + 1) scope.names (cloFrom X.env.cells scope.names [])) fp
  show codeAny _ _ (.compStart (.ListComp elt [⟨tg, iter, ifs, 0⟩] scope pos) 0 (.ref it) (.ref D) (compEnvC scope (cellsFrom (s3.heap.objs.size + 1) scope.names (cloFrom X.env.cells scope.names [])) s3.heap.objs.size X.env)) (compPostF (model X.prog X.w) X.A X.xe use Qf X.env.frame (.ref D) s3.heap.objs.size) { s3 with heap := pushCells (s3.heap.push { cls := .type "dict", data := .dict #[] }) scope.names }
  have nfp : ∀ b ∈ fp, (upd H2 D (.lst [])) b = none := fun b hb => (f3 b hb).1.1
  generalize hce : compEnvC scope (cellsFrom (s3.heap.objs.size + 1) scope.names (cloFrom X.env.cells scope.names [])) s3.heap.objs.size X.env = ce at I4 pg pt pe ⊢
  have cL : ce.locals = s3.heap.objs.size := by subst hce; rfl
  have hcF : ce.frame = X.env.frame := by subst hce; rfl
  generalize hH3 : upd H2 D (.lst []) = H3 at I3 I4 pg pt pe w0 nfp f3
  generalize hs4 : ({ s3 with heap := pushCells (s3.heap.push { cls := .type "dict", data := .dict #[] }) scope.names } : Shared) = s4 at I4 ⊢
  have st4 : tn 0 s4.heap := T.keep _ _ _ st3 fun b _ o e => by rw [← hs4]; exact pushCells_keeps _ _ _ _ (Heap.get?_push_of_some _ e)
  have stat : ∀ {σ' : St} {H' : Hp} {s' : Shared}, Inv (X.blk s3 H3 scope ce fp) [] σ' H' s' → (∀ b ∈ fp, H' b = none) → ∀ b ∈ fp, FpOk (X.blk s3 H3 scope ce fp) [] H' b := fun {σ' H' s'} I' hn b hb =>
    ⟨hn b hb, (I'.ok.exf b hb).1, I'.ok.exfs b hb, .inl hb, fun x c e => (I'.ok.exf b hb).2 x c e, fun p hp => absurd (show p ∈ ([] : List (Addr × Obj)) ++ [] from hp) (by simp)⟩
  have loop : codeAny (model X.prog X.w) X.A (.compLoop (.ListComp elt [⟨tg, iter, ifs, 0⟩] scope pos) 0 (.ref it) (.ref D) ce) (compPostF (model X.prog X.w) X.A X.xe use Qf X.env.frame (.ref D) s3.heap.objs.size) s4 := by
    refine compLoop_any (fun n s' => ∃ i H', Inv (X.blk s3 H3 scope ce fp) [] (wipe σ (own.map (·.2))) H' s' ∧ tn i s'.heap ∧ (∀ b ∈ fp, H' b = none) ∧ W i n H') ?_ m0 ⟨0, H3, I4, st4, nfp, w0⟩
    rintro n s5 ⟨i, H5, I5, st5, n5, w5⟩
    rcases turn i n H5 w5 with ⟨stop, qq⟩ | ⟨go, Nx, hNx, step⟩
    · have td := T.done (X.blk s3 H3 scope ce fp) rfl rfl rfl hc i [] s5 _ H5 (fun _ _ => False) I5 (stat I5 n5) st5 stop
      refine thnF td fun r s6 ⟨hr, I6⟩ => ?_
      subst hr
      -- back in the def's context
      have I7 : Inv X pins σ H5 s6 := I3.call' (ch := fp) I6.os I6.base I6.hok I6.bare fun b hb => ⟨(f3 b hb).1.2.2.2.1, (f3 b hb).1.2.1, (f3 b hb).1.2.2.2.2.1, (f3 b hb).1.2.2.2.2.2⟩
      have nC : H5 s3.heap.objs.size = none := by
        have z : H5 ce.locals = none := I6.free
        rw [cL] at z
        exact z
      obtain ⟨m, hn, _⟩ := I6.loc
      have hn : s6.heap.Ns ce.locals m := hn
      rw [cL] at hn
      exact hRR D s3.heap.objs.size s6 m H5 I7 qq hn (I3.fpOk (Nat.le_refl _) nC)
    · have ti := T.item (X.blk s3 H3 scope ce fp) rfl rfl rfl hc i [] s5 _ H5 (fun _ _ => False) I5 (stat I5 n5) st5 go
      refine thnF ti fun r s6 ⟨u, hr, h6⟩ => ?_
      subst hr
      refine thnF h6 fun _ s7 ⟨x, H7, I7, r7, y7, st7, n7⟩ => ?_
      have I7' := I7.pinned (stat I7 n7) (T.obj _ _ st7)
      refine thnF (pg.run _ s7 _ H7 x u _ I7' r7 (step x H7 y7)) fun _ s8 ⟨σ8, H8, I8, hw8, q8⟩ => ?_
      refine thnF (pt.run _ s8 σ8 H8 _ I8 q8) fun b s9 ⟨H9, I9, q9⟩ => ?_
      -- the turn's end
      have fin : ∀ {s' : Shared} {H' : Hp}, Inv (X.blk s3 H3 scope ce fp) ([] ++ pinsAt fp s7.heap) σ8 H' s' → Nx H' → ∃ m, m < n ∧ ∃ i H', Inv (X.blk s3 H3 scope ce fp) [] (wipe σ (own.map (·.2))) H' s' ∧ tn i s'.heap ∧ (∀ b ∈ fp, H' b = none) ∧ W i m H' := fun {s' H'} I' nx => by
        obtain ⟨m', hm, w'⟩ := hNx H' nx
        have pin' : ∀ b ∈ fp, ∀ o, s7.heap.get? b = some o → s'.heap.get? b = some o ∧ H' b = none := fun b hb o e =>
          let z := I'.pin (b, o) (List.mem_append_right _ (List.mem_append_right _ (mem_pinsAt hb e)))
          ⟨z.1, z.2.1⟩
        have hl : (wipe σ (own.map (·.2))).length = σ8.length := by rw [← hw8, wipe_length]
        refine ⟨m', hm, i + 1, H', (I'.unpinned (pins := [])).weak hl (fun j v e => ?_), T.keep _ _ _ st7 fun b hb o e => (pin' b hb o e).1, fun b hb => ?_, w'⟩
        · rw [← hw8] at e
          exact (wipe_some e).1
        · obtain ⟨o, e, _⟩ := T.obj _ _ st7 b hb
          exact (pin' b hb o e).2
      cases b with
      | false =>
        simp only [Bool.false_eq_true, if_false] at q9 ⊢
        exact fin I9 q9
      | true =>
        simp only [if_true] at q9 ⊢
        refine wpAny_mono (pe.run _ s9 σ8 H9 _ (I9.withXe _) q9) (fun z s10 ⟨yv, H10, I10', r10, acc, hD10, hz10, nx⟩ => ?_) (fun z s10 ⟨pins9, σ9, H9', s9', J9, cx9⟩ => ?_)
        · have I10 := Inv.backXe I5.ok I10'
          exact wpAny_mono (app_ok (X := X.blk s3 H3 scope ce fp) (E := fun _ _ => False) I10 hD10 hz10 r10 fun s11 I11 => fin I11 nx) (fun _ _ h => h) fun _ _ h => h.elim
        · have J7 : Inv X pins σ H9' s9' := I3.call' (ch := fp) J9.os J9.base J9.hok J9.bare fun b hb => ⟨(f3 b hb).1.2.2.2.1, (f3 b hb).1.2.1, (f3 b hb).1.2.2.2.2.1, (f3 b hb).1.2.2.2.2.2⟩
          have nC : H9' s3.heap.objs.size = none := by
            have z : H9' ce.locals = none := J9.free
            rw [cL] at z
            exact z
          obtain ⟨m, hn, _⟩ := J9.loc
          have hn : s9'.heap.Ns ce.locals m := hn
          rw [cL] at hn
          have hpost := air_comp tk hst hfm J7 cx9 (I3.fpOk (Nat.le_refl _) nC) hn (ce := ce) hcF
          refine wpAny_mono hpost (fun _ s11 ⟨m', hm', hp'⟩ => ?_) fun _ s11 ⟨m', hm', hp'⟩ => ?_
          · cases use <;> exact ⟨m', hm', fun h' sb cenv e1 e2 => hp' h' sb cenv e1 (e2.trans hfm)⟩
          · cases use <;> exact ⟨m', hm', fun h' sb cenv e1 e2 => hp' h' sb cenv e1 (e2.trans hfm)⟩
  exact codeAny_compStart_list loop (T.self X.A 0 _ _ _ st4 loop)
/-- as a value -/
theorem pe_lcX {E : XK} (tk : Takes X (fun cls d _ H => E cls d H)) (hst : X.stack = X.env :: X.outer) (hfm : X.env.frame = some X.env.locals) {elt tg iter : Expr} {ifs : List Expr} {scope : Scope} {own : List (Str × Nat)} {pos : Pos} {wi : TI} {g : TG} {tt : TT} {te : TE} (hc : X.calm = true) (hN : X.N.Nodup) (hi : PI X tg iter wi) (ok : BlkOk X.N X.env.scope scope own)
    (hg : ∀ (s : Shared) (H : Hp) (C : Addr) (cl : List (Str × Addr)) (fp : List Addr), PG (X.blk s H scope (compEnvC scope cl C X.env) fp) tg g) (ht : ∀ (s : Shared) (H : Hp) (C : Addr) (cl : List (Str × Addr)) (fp : List Addr), PTs (X.blk s H scope (compEnvC scope cl C X.env) fp) ifs tt)
    (he : ∀ (s : Shared) (H : Hp) (C : Addr) (cl : List (Str × Addr)) (fp : List Addr), PE (X.blkX s H scope (compEnvC scope cl C X.env) fp E) elt te) (hs : ∀ x, foldedSetIterable iter X.env x = pure x := by intro _; rfl) :
    PE X (.ListComp elt [⟨tg, iter, ifs, 0⟩] scope pos) (tLc wi g tt te (own.map (·.2))) := by
  refine ⟨fun pins s σ H Q I h => ?_⟩
  rw [eval_ListComp]
  refine lc_coreX tk hst hfm hc hN I hi ok hg ht he hs h fun D C s' m H' I' q hn f => ⟨m, hn, fun h'' sb => ?_⟩
  obtain ⟨f0, f1, f2, f3, f4, f5⟩ := f
  exact ⟨.ref D, H', I'.turned (t' := s'.toks) (fun b o hb e => (sb.2 b hb).trans e) f0 f1 f3 f4 f5, rfl, q⟩
/-- name = [..] on one line -/
theorem ps_setLcX {E : XK} (tk : Takes X (fun cls d _ H => E cls d H)) (hst : X.stack = X.env :: X.outer) (hfm : X.env.frame = some X.env.locals) {i : Nat} {y : Str} {py : Pos} {elt tg iter : Expr} {ifs : List Expr} {scope : Scope} {own : List (Str × Nat)} {pos spos : Pos} {wi : TI} {g : TG} {tt : TT} {te : TE} (hc : X.calm = true) (hN : X.N.Nodup) (hy : X.N[i]? = some y) (hyl : X.env.scope.names.lookup y = some .local)
    (hsw : swapsWith (.ListComp elt [⟨tg, iter, ifs, 0⟩] scope pos) (some (.Name y py)) spos.line X.env = pure true) (hi : PI X tg iter wi) (ok : BlkOk X.N X.env.scope scope own)
    (hg : ∀ (s : Shared) (H : Hp) (C : Addr) (cl : List (Str × Addr)) (fp : List Addr), PG (X.blk s H scope (compEnvC scope cl C X.env) fp) tg g) (ht : ∀ (s : Shared) (H : Hp) (C : Addr) (cl : List (Str × Addr)) (fp : List Addr), PTs (X.blk s H scope (compEnvC scope cl C X.env) fp) ifs tt)
    (he : ∀ (s : Shared) (H : Hp) (C : Addr) (cl : List (Str × Addr)) (fp : List Addr), PE (X.blkX s H scope (compEnvC scope cl C X.env) fp E) elt te) (hs : ∀ x, foldedSetIterable iter X.env x = pure x := by intro _; rfl) :
    PS X (.Assign [.Name y py] (.ListComp elt [⟨tg, iter, ifs, 0⟩] scope pos) spos) (tAsg (tLc wi g tt te (own.map (·.2))) (gName i)) := by
  refine ⟨fun pins s σ H D I h => ?_⟩
  rw [exec_Assign_Name_used _ _ _ _ hsw]
  refine wpAny_bind (wpAny_standAt (wpAny_bind ?_))
  show wpAny _ X.A (do let _ ← comprehension (.ListComp elt [⟨tg, iter, ifs, 0⟩] scope pos) scope X.env (firstIterPos [⟨tg, iter, ifs, 0⟩] pos) (newList []) false (eval iter X.env) (some (assign (.Name y py) X.env))) _ _ s
  have h : tLc wi g tt te (own.map (·.2)) σ H (fun x H1 => gName i x σ H1 D.nx) := h
  refine wpAny_bind (thn (lc_coreX (Qf := fun _ s' => SP X pins D .next s') tk hst hfm hc hN I hi ok hg ht he hs h fun L C s' m H' I' q hn f => ?_) fun _ s' hq => wpAny_pure (wpAny_pure hq))
  show wpAny _ _ (assign (.Name y py) X.env (.ref L)) _ _ _
  refine wpAny_assign_Name (store_ok2 (v := V.ref L) I' hN hy (.inl hyl) rfl (fun s2 I2 ⟨a, sb, ha⟩ => ?_) (.inr hyl))
  obtain ⟨f0, f1, f2, f3, f4, f5⟩ := f
  have haC : C ≠ a := by
    rcases ha with z | z
    · rw [z]; exact f1
    · exact fun e => f4 y a z e.symm
  refine ⟨m, hn.sameBut sb haC, fun h3 sb3 => ?_⟩
  exact ⟨_, H', I2.turned (t' := s2.toks) (fun b o hb e => (sb3.2 b hb).trans e) f0 f1 f3 f4 f5, q⟩
end
end L2

set_option Elab.async false
set_option linter.all false
set_option maxRecDepth 100000
set_option maxHeartbeats 4000000
/-! Part G6: compiling in plain Lean. -/
namespace Toy
open PySem L2
/-! ### scopes -/
def ext1 (f : Str → Option Int) (s : Str) (i : Int) : Str → Option Int := fun t => if t = s then some i else f t
def extN : (Str → Option Int) → Nat → List Str → Str → Option Int
  | f, _, [] => f
  | f, d, x :: r => extN (ext1 f x d) (d + 1) r
theorem extN_snoc (x : Str) : ∀ (l : List Str) (f : Str → Option Int) (d : Nat), extN f d (l ++ [x]) = ext1 (extN f d l) x ((d + l.length : Nat) : Int)
  | [], f, d => rfl
  | y :: l, f, d => by
    show extN (ext1 f y d) (d + 1) (l ++ [x]) = _
    rw [extN_snoc x l, List.length_cons, show d + 1 + l.length = d + (l.length + 1) by omega]
    rfl
theorem extN_some (t : Str) : ∀ (l : List Str) (f : Str → Option Int) (d : Nat), (extN f d l t).isSome = true ↔ (f t).isSome = true ∨ t ∈ l
  | [], f, d => ⟨.inl, fun h => h.elim id fun z => by cases z⟩
  | y :: l, f, d => by
    show (extN (ext1 f y d) (d + 1) l t).isSome = true ↔ _
    rw [extN_some t l, List.mem_cons]
    unfold ext1
    by_cases e : t = y
    · rw [if_pos e]
      exact ⟨fun _ => .inr (.inl e), fun _ => .inl rfl⟩
    · rw [if_neg e]
      constructor
      · rintro (h | h)
        · exact .inl h
        · exact .inr (.inr h)
      · rintro (h | h | h)
        · exact .inl h
        · exact (e h).elim
        · exact .inr h
/-- different names have different places, all below d -/
def Plain (f : Str → Option Int) (d : Nat) : Prop := (∀ s t i, f s = some i → f t = some i → s = t) ∧ ∀ s i, f s = some i → 0 ≤ i ∧ i < (d : Int)
theorem plain_none : Plain (fun _ => none) 0 := ⟨fun _ _ _ (h : none = some _) => (by cases h), fun _ _ (h : none = some _) => (by cases h)⟩
theorem Plain.one {f : Str → Option Int} {d : Nat} (h : Plain f d) (x : Str) : Plain (ext1 f x d) (d + 1) := by
  refine ⟨fun s t i hs ht => ?_, fun s i hs => ?_⟩
  · unfold ext1 at hs ht
    by_cases e1 : s = x
    · rw [if_pos e1] at hs
      by_cases e2 : t = x
      · rw [e1, e2]
      · rw [if_neg e2] at ht
        have := (h.2 t i ht).2
        cases hs
        omega
    · rw [if_neg e1] at hs
      by_cases e2 : t = x
      · rw [if_pos e2] at ht
        have := (h.2 s i hs).2
        cases ht
        omega
      · rw [if_neg e2] at ht
        exact h.1 s t i hs ht
  · unfold ext1 at hs
    by_cases e1 : s = x
    · rw [if_pos e1] at hs
      cases hs
      omega
    · rw [if_neg e1] at hs
      have := h.2 s i hs
      omega
theorem Plain.all : ∀ {l : List Str} {f : Str → Option Int} {d : Nat}, Plain f d → Plain (extN f d l) (d + l.length)
  | [], _, _, h => h
  | x :: l, f, d, h => by
    have := Plain.all (l := l) (h.one x)
    rw [List.length_cons, show d + (l.length + 1) = d + 1 + l.length by omega]
    exact this
structure Sc where
  f : Str → Option Int
  d : Nat
def Sc.ext (σ : Sc) (ns : List Str) : Sc := ⟨extN σ.f σ.d ns, σ.d + ns.length⟩
def Sc.beg (ns : List Str) : Sc := Sc.ext ⟨fun _ => none, 0⟩ ns
def Sc.Ok (σ : Sc) : Prop := Plain σ.f σ.d
theorem Sc.Ok.ext {σ : Sc} (h : σ.Ok) (ns : List Str) : (σ.ext ns).Ok := Plain.all h
theorem Sc.beg_ok (ns : List Str) : (Sc.beg ns).Ok := Plain.all plain_none
/-! ### operands -/
def badA (f ix : Str → Option Int) : Dd → Option Str
  | .str s => if (f s).isSome then none else if (ix s).isSome then none else some s
  | _ => none
def opA (f ix : Str → Option Int) : Dd → Dd
  | .str s => match f s with
    | some i => .tup [.str "slot", .int i]
    | none => .tup [.str "global", .int ((ix s).getD 0)]
  | a => .tup [.str "number", a]
def badL (f ix : Str → Option Int) (l : List Dd) : Option Str := l.findSome? (badA f ix)
def noF : Str → Option Int := fun _ => none
def opsBad (f ix : Str → Option Int) (w : Str) (r : List Dd) : Option Str :=
  if w = "later" then none else if w = "part" then (badA noF ix (arg 0 r)).or (badL f ix (atomsW w r)) else badL f ix (atomsW w r)
def opsD (f ix : Str → Option Int) (w : Str) (r : List Dd) : List Dd :=
  (if w = "part" then [opA noF ix (arg 0 r)] else []) ++ (atomsW w r).map (opA f ix)
def slotD (i : Int) : Dd := .tup [.str "slot", .int i]
/-- the names that a delayed body needs, in the order of their places -/
def Need (f : Str → Option Int) (k : Dd) (ns : List Str) : Prop := (∀ s, s ∈ ns ↔ fr k s ∧ (f s).isSome = true) ∧ ns.Pairwise fun a b => (f a).getD 0 < (f b).getD 0
theorem pw_eq {α : Type} {r : α → α → Prop} (as : ∀ a b, r a b → ¬ r b a) : ∀ {l m : List α}, l.Pairwise r → m.Pairwise r → (∀ x, x ∈ l ↔ x ∈ m) → l = m
  | [], [], _, _, _ => rfl
  | [], b :: m, _, _, h => by cases (h b).mpr (List.mem_cons_self ..)
  | a :: l, [], _, _, h => by cases (h a).mp (List.mem_cons_self ..)
  | a :: l, b :: m, hl, hm, h => by
    obtain ⟨l1, l2⟩ := List.pairwise_cons.mp hl
    obtain ⟨m1, m2⟩ := List.pairwise_cons.mp hm
    have irr : ∀ x, ¬ r x x := fun x z => as x x z z
    have e : a = b := by
      rcases List.mem_cons.mp ((h a).mp (List.mem_cons_self ..)) with e | e
      · exact e
      · rcases List.mem_cons.mp ((h b).mpr (List.mem_cons_self ..)) with e2 | e2
        · exact e2.symm
        · exact (as a b (l1 b e2) (m1 a e)).elim
    subst e
    rw [pw_eq as l2 m2 fun x => ⟨fun hx => ?_, fun hx => ?_⟩]
    · rcases List.mem_cons.mp ((h x).mp (List.mem_cons_of_mem _ hx)) with e | e
      · exact (irr a (e ▸ l1 x hx)).elim
      · exact e
    · rcases List.mem_cons.mp ((h x).mpr (List.mem_cons_of_mem _ hx)) with e | e
      · exact (irr a (e ▸ m1 x hx)).elim
      · exact e
theorem need_one {f : Str → Option Int} {k : Dd} {ns ms : List Str} (h1 : Need f k ns) (h2 : Need f k ms) : ns = ms :=
  pw_eq (fun a b h1 h2 => by omega) h1.2 h2.2 fun x => by rw [h1.1, h2.1]
def insS (f : Str → Option Int) (x : Str) : List Str → List Str
  | [] => [x]
  | y :: m => if (f x).getD 0 < (f y).getD 0 then x :: y :: m else if x = y then y :: m else y :: insS f x m
theorem ins_mem {f : Str → Option Int} {x t : Str} : ∀ {m : List Str}, t ∈ insS f x m ↔ t = x ∨ t ∈ m
  | [] => by show t ∈ [x] ↔ _; simp
  | y :: m => by
    unfold insS
    split
    · rw [List.mem_cons]
    · split
      · next e => rw [List.mem_cons]; exact ⟨.inr, fun h => h.elim (fun z => .inl (z.trans e)) id⟩
      · rw [List.mem_cons, ins_mem (m := m), List.mem_cons]
        constructor
        · rintro (h | h | h)
          · exact .inr (.inl h)
          · exact .inl h
          · exact .inr (.inr h)
        · rintro (h | h | h)
          · exact .inr (.inl h)
          · exact .inl h
          · exact .inr (.inr h)
theorem ins_up {f : Str → Option Int} {d : Nat} (hf : Plain f d) {x : Str} (hx : (f x).isSome = true) : ∀ {m : List Str}, (∀ y ∈ m, (f y).isSome = true) → m.Pairwise (fun a b => (f a).getD 0 < (f b).getD 0) → (insS f x m).Pairwise fun a b => (f a).getD 0 < (f b).getD 0
  | [], _, _ => List.pairwise_singleton _ _
  | y :: m, hm, h => by
    obtain ⟨h1, h2⟩ := List.pairwise_cons.mp h
    unfold insS
    split
    · next lt => exact List.pairwise_cons.mpr ⟨fun z hz => (List.mem_cons.mp hz).elim (fun e => e ▸ lt) fun e => by have := h1 z e; omega, h⟩
    · next nlt =>
      split
      · exact h
      · next ne =>
        refine List.pairwise_cons.mpr ⟨fun z hz => ?_, ins_up hf hx (fun z hz => hm z (List.mem_cons_of_mem _ hz)) h2⟩
        rcases ins_mem.mp hz with e | e
        · rw [e]
          obtain ⟨i, hi⟩ := Option.isSome_iff_exists.mp hx
          obtain ⟨j, hj⟩ := Option.isSome_iff_exists.mp (hm y (List.mem_cons_self ..))
          have nij : i ≠ j := fun z => ne (hf.1 x y i hi (by rw [z]; exact hj))
          rw [hi, hj] at nlt
          rw [hi, hj]
          have nlt : ¬ i < j := nlt
          show j < i
          omega
        · exact h1 z e
/-- the free names as a list -/
def frL : Nat → Dd → List Str
  | 0, _ => []
  | n + 1, k => (atomsP k).filterMap (fun a => match a with | .str s => some s | _ => none) ++ ((innerP k).map fun q => (frL n q.2).filter fun s => decide (s ∉ q.1)).flatten
theorem frL_mem {U : List Str} : ∀ (n : Nat) (k : Dd), gl U k → k.sz ≤ n → ∀ s, s ∈ frL n k ↔ fr k s
  | 0, k, _, h, _ => by have := sz_pos k; omega
  | n + 1, k, hg, h, s => by
    obtain ⟨w, r, rfl, _, hi, _, _, hq⟩ := gl_parts hg
    have hs := inner_sz hi
    rw [fr_eq]
    unfold frL
    rw [List.mem_append, List.mem_filterMap, List.mem_flatten]
    constructor
    · rintro (⟨a, ha, e⟩ | ⟨l, hl, hx⟩)
      · refine .inl ?_
        cases a with
        | str t => cases e; exact ha
        | int i => cases e
        | bl b => cases e
        | non => cases e
        | tup l => cases e
        | lst l => cases e
      · obtain ⟨q, hqm, rfl⟩ := List.mem_map.mp hl
        obtain ⟨h1, h2⟩ := List.mem_filter.mp hx
        have := szs_mem (List.mem_map.mpr ⟨q, hqm, rfl⟩ : q.2 ∈ (innerW w r).map (·.2))
        exact .inr ⟨q, hqm, of_decide_eq_true h2, (frL_mem n q.2 (hq q hqm).2 (by omega) s).mp h1⟩
    · rintro (h | ⟨q, hqm, h1, h2⟩)
      · exact .inl ⟨_, h, rfl⟩
      · have := szs_mem (List.mem_map.mpr ⟨q, hqm, rfl⟩ : q.2 ∈ (innerW w r).map (·.2))
        exact .inr ⟨_, List.mem_map.mpr ⟨q, hqm, rfl⟩, List.mem_filter.mpr ⟨(frL_mem n q.2 (hq q hqm).2 (by omega) s).mpr h2, decide_eq_true h1⟩⟩
theorem need_ex {f : Str → Option Int} {d : Nat} (hf : Plain f d) {U : List Str} {k : Dd} (hg : gl U k) : ∃ ns, Need f k ns := by
  have key : ∀ l : List Str, ∃ ns : List Str, (∀ s, s ∈ ns ↔ s ∈ l ∧ (f s).isSome = true) ∧ ns.Pairwise fun a b => (f a).getD 0 < (f b).getD 0 := by
    intro l
    induction l with
    | nil => exact ⟨[], fun s => ⟨(by intro h; cases h), fun h => by cases h.1⟩, List.Pairwise.nil⟩
    | cons x l ih =>
      obtain ⟨ns, h1, h2⟩ := ih
      cases hx : (f x).isSome with
      | false =>
        refine ⟨ns, fun s => ?_, h2⟩
        rw [h1, List.mem_cons]
        exact ⟨fun h => ⟨.inr h.1, h.2⟩, fun h => ⟨h.1.elim (fun e => by rw [e, hx] at h; cases h.2) id, h.2⟩⟩
      | true =>
        refine ⟨insS f x ns, fun s => ?_, ins_up hf hx (fun y hy => ((h1 y).mp hy).2) h2⟩
        rw [ins_mem, h1, List.mem_cons]
        constructor
        · rintro (h | h)
          · exact ⟨.inl h, by rw [h]; exact hx⟩
          · exact ⟨.inr h.1, h.2⟩
        · rintro ⟨h | h, k⟩
          · exact .inl h
          · exact .inr ⟨h, k⟩
  obtain ⟨ns, h1, h2⟩ := key (frL k.sz k)
  exact ⟨ns, fun s => by rw [h1, frL_mem k.sz k hg (Nat.le_refl _)], h2⟩
/-! ### code -/
def lastP (l : List Dd) : Dd := lastD (.tup l)
def tagRow (q b : Dd) : Dd := .tup [nth 0 q, .int ((tl (nth 1 q)).length : Nat), b]
def numRow (q b : Dd) : Dd := .tup [nth 0 q, b]
def dfOr (d : Dd) (is : List Dd) : Dd := match d with | .non => .non | _ => lastP is
def putW (w : Str) (r ops is : List Dd) : Dd :=
  if w = "atom" then .tup [.str "give", nth 0 (.tup ops)] else if w = "call" then .tup [.str "call", nth 0 (.tup ops), .tup (ops.drop 1)]
  else if w = "con" then .tup [.str "con", arg 0 r, .tup ops] else if w = "prim" then .tup [.str "prim", arg 0 r, nth 0 (.tup ops), nth 1 (.tup ops)]
  else if w = "let" then .tup [.str "let", .tup is.dropLast, lastP is] else if w = "seq" then .tup [.str "seq", nth 0 (.tup is), nth 1 (.tup is)]
  else if w = "case" then .tup [.str "case", nth 0 (.tup is), .tup (List.zipWith tagRow (tl (arg 1 r)) (is.drop 1)), dfOr (arg 2 r) is]
  else if w = "pick" then .tup [.str "pick", nth 0 (.tup is), .tup (List.zipWith numRow (tl (arg 1 r)) (is.drop 1)), dfOr (arg 2 r) is]
  else if w = "note" then .tup [.str "note", arg 0 r, nth 0 (.tup is)] else if w = "later" then .tup [.str "later", .tup ops, nth 0 (.tup is)]
  else .tup [.str "part", nth 1 (nth 0 (.tup ops)), .tup (ops.drop 1)]
inductive OpsR (ix : Str → Option Int) : Dd → Sc → List Dd → Sc → Prop
  | later {r : List Dd} {σ : Sc} {ns : List Str} : Need σ.f (.tup (.str "later" :: r)) ns → OpsR ix (.tup (.str "later" :: r)) σ (ns.map fun s => slotD ((σ.f s).getD 0)) (Sc.beg ns)
  | other {w : Str} {r : List Dd} {σ : Sc} : w ≠ "later" → OpsR ix (.tup (.str w :: r)) σ (opsD σ.f ix w r) σ
theorem ops_one {ix : Str → Option Int} {k : Dd} {σ σ1 σ2 : Sc} {o1 o2 : List Dd} (h1 : OpsR ix k σ o1 σ1) (h2 : OpsR ix k σ o2 σ2) : o1 = o2 ∧ σ1 = σ2 := by
  cases h1 with
  | later n1 =>
    cases h2 with
    | later n2 => rw [need_one n1 n2]; exact ⟨rfl, rfl⟩
    | other h => exact (h rfl).elim
  | other h =>
    cases h2 with
    | later n2 => exact (h rfl).elim
    | other _ => exact ⟨rfl, rfl⟩
mutual
/-- what a thing compiles to, in so many turns -/
inductive Cd (ix : Str → Option Int) : Dd → Sc → Dd → Nat → Prop
  | node {w : Str} {r : List Dd} {σ σ' : Sc} {ops cs : List Dd} {n : Nat} : opsBad σ.f ix w r = none → OpsR ix (.tup (.str w :: r)) σ ops σ' → Cds ix (innerW w r) σ' cs n → Cd ix (.tup (.str w :: r)) σ (putW w r ops cs) (n + 2)
inductive Cds (ix : Str → Option Int) : List (List Str × Dd) → Sc → List Dd → Nat → Prop
  | nil {σ : Sc} : Cds ix [] σ [] 0
  | cons {q : List Str × Dd} {l : List (List Str × Dd)} {σ : Sc} {c : Dd} {cs : List Dd} {n m : Nat} : Cd ix q.2 (σ.ext q.1) c n → Cds ix l σ cs m → Cds ix (q :: l) σ (c :: cs) (n + m)
end
mutual
/-- .. or the name that is nowhere -/
inductive Cb (ix : Str → Option Int) : Dd → Sc → Str → Nat → Prop
  | bad {w : Str} {r : List Dd} {σ : Sc} {z : Str} : opsBad σ.f ix w r = some z → Cb ix (.tup (.str w :: r)) σ z 1
  | deep {w : Str} {r : List Dd} {σ σ' : Sc} {ops : List Dd} {z : Str} {n : Nat} : opsBad σ.f ix w r = none → OpsR ix (.tup (.str w :: r)) σ ops σ' → Cbs ix (innerW w r) σ' z n → Cb ix (.tup (.str w :: r)) σ z (n + 1)
inductive Cbs (ix : Str → Option Int) : List (List Str × Dd) → Sc → Str → Nat → Prop
  | stop {q : List Str × Dd} {l : List (List Str × Dd)} {σ : Sc} {z : Str} {n : Nat} : Cb ix q.2 (σ.ext q.1) z n → Cbs ix (q :: l) σ z n
  | step {q : List Str × Dd} {l : List (List Str × Dd)} {σ : Sc} {c : Dd} {z : Str} {n m : Nat} : Cd ix q.2 (σ.ext q.1) c n → Cbs ix l σ z m → Cbs ix (q :: l) σ z (m + n)
end
inductive Tsk
  | fresh (k : Dd) (σ : Sc)
  | ready (w : Str) (r ops : List Dd)
/-- the turns that are left -/
inductive Run (ix : Str → Option Int) : List Tsk → List Dd → Sum Str Dd → Nat → Prop
  | nil {x : Dd} : Run ix [] [x] (.inr x) 0
  | bad {w : Str} {r : List Dd} {σ : Sc} {z : Str} {ts : List Tsk} {dn : List Dd} : opsBad σ.f ix w r = some z → Run ix (.fresh (.tup (.str w :: r)) σ :: ts) dn (.inl z) 1
  | node {w : Str} {r : List Dd} {σ σ' : Sc} {ops : List Dd} {ts : List Tsk} {dn : List Dd} {x : Sum Str Dd} {n : Nat} : opsBad σ.f ix w r = none → OpsR ix (.tup (.str w :: r)) σ ops σ' →
      Run ix ((innerW w r).map (fun q => .fresh q.2 (σ'.ext q.1)) ++ .ready w r ops :: ts) dn x n → Run ix (.fresh (.tup (.str w :: r)) σ :: ts) dn x (n + 1)
  | ready {w : Str} {r ops cs : List Dd} {ts : List Tsk} {dn : List Dd} {x : Sum Str Dd} {n : Nat} : cs.length = (innerW w r).length → Run ix ts (dn ++ [putW w r ops cs]) x n → Run ix (.ready w r ops :: ts) (dn ++ cs) x (n + 1)
theorem cds_len {ix : Str → Option Int} : ∀ {l : List (List Str × Dd)} {σ : Sc} {cs : List Dd} {n : Nat}, Cds ix l σ cs n → cs.length = l.length
  | _, _, _, _, .nil => rfl
  | _, _, _, _, .cons _ h => by rw [List.length_cons, List.length_cons, cds_len h]
mutual
theorem run_ok {ix : Str → Option Int} : ∀ {k : Dd} {σ : Sc} {c : Dd} {n : Nat}, Cd ix k σ c n → ∀ {ts : List Tsk} {dn : List Dd} {x : Sum Str Dd} {m : Nat}, Run ix ts (dn ++ [c]) x m → Run ix (.fresh k σ :: ts) dn x (m + n)
  | _, _, _, _, .node (n := n) h1 h2 h3, _, _, _, m, h => by
    rw [show m + (n + 2) = m + 1 + n + 1 by omega]
    exact .node h1 h2 (runs_ok h3 (.ready (cds_len h3) h))
theorem runs_ok {ix : Str → Option Int} : ∀ {l : List (List Str × Dd)} {σ : Sc} {cs : List Dd} {n : Nat}, Cds ix l σ cs n → ∀ {ts : List Tsk} {dn : List Dd} {x : Sum Str Dd} {m : Nat}, Run ix ts (dn ++ cs) x m → Run ix (l.map (fun q => .fresh q.2 (σ.ext q.1)) ++ ts) dn x (m + n)
  | _, _, _, _, .nil, _, dn, _, _, h => by
    rw [List.append_nil] at h
    exact h
  | _, _, _, _, .cons (n := n) (m := n') h1 h2, _, _, _, m, h => by
    rw [show m + (n + n') = m + n' + n by omega]
    refine run_ok h1 (runs_ok h2 ?_)
    rw [List.append_assoc]
    exact h
end
mutual
theorem run_bad {ix : Str → Option Int} : ∀ {k : Dd} {σ : Sc} {z : Str} {n : Nat}, Cb ix k σ z n → ∀ {ts : List Tsk} {dn : List Dd}, Run ix (.fresh k σ :: ts) dn (.inl z) n
  | _, _, _, _, .bad h, _, _ => .bad h
  | _, _, _, _, .deep h1 h2 h3, _, _ => .node h1 h2 (runs_bad h3)
theorem runs_bad {ix : Str → Option Int} : ∀ {l : List (List Str × Dd)} {σ : Sc} {z : Str} {n : Nat}, Cbs ix l σ z n → ∀ {ts : List Tsk} {dn : List Dd}, Run ix (l.map (fun q => .fresh q.2 (σ.ext q.1)) ++ ts) dn (.inl z) n
  | _, _, _, _, .stop h, _, _ => run_bad h
  | _, _, _, _, .step h1 h2, _, _ => run_ok h1 (runs_bad h2)
end
/-- from one thing alone -/
theorem run_one' {ix : Str → Option Int} {k c : Dd} {σ : Sc} {n : Nat} (h : Cd ix k σ c n) : Run ix [.fresh k σ] [] (.inr c) n := by
  have := run_ok h (ts := []) (dn := []) (x := .inr c) (m := 0) .nil
  rwa [Nat.zero_add] at this
theorem run_len {ix : Str → Option Int} : ∀ {ts : List Tsk} {dn : List Dd} {x : Dd} {n : Nat}, Run ix ts dn (.inr x) n → ts.length ≤ n := by
  intro ts dn x n h
  generalize hy : (Sum.inr x : Sum Str Dd) = y at h
  induction h with
  | nil => exact Nat.le_refl _
  | bad _ => cases hy
  | node _ _ _ ih => have := ih hy; simp only [List.length_append, List.length_cons, List.length_map] at this ⊢; omega
  | ready _ _ ih => have := ih hy; simp only [List.length_cons]; omega
mutual
/-- everything compiles, one way or the other -/
theorem cd_ex {ix : Str → Option Int} {U : List Str} : ∀ (N : Nat) (k : Dd) (σ : Sc), k.sz ≤ N → gl U k → σ.Ok → ∃ n, n ≤ 2 * k.sz ∧ ((∃ c, Cd ix k σ c n) ∨ ∃ z, Cb ix k σ z n)
  | 0, k, _, h, _, _ => by have := sz_pos k; omega
  | N + 1, k, σ, h, hg, ho => by
    have hgl := hg
    obtain ⟨w, r, rfl, _, hi, _, _, hq⟩ := gl_parts hg
    have hs := inner_sz hi
    have hp := sz_pos (Dd.tup (.str w :: r))
    cases hb : opsBad σ.f ix w r with
    | some z => exact ⟨_, by omega, .inr ⟨_, .bad hb⟩⟩
    | none =>
      obtain ⟨ops, σ', ho', hr⟩ : ∃ ops σ', OpsR ix (.tup (.str w :: r)) σ ops σ' ∧ σ'.Ok := by
        by_cases e : w = "later"
        · subst e
          obtain ⟨ns, hns⟩ := need_ex ho hgl
          exact ⟨_, _, .later hns, Sc.beg_ok ns⟩
        · exact ⟨_, _, .other e, ho⟩
      obtain ⟨n, hn, hx⟩ := cds_ex N (innerW w r) σ' (by omega) (fun q h => (hq q h).2) hr
      rcases hx with ⟨cs, hx⟩ | ⟨z, hx⟩
      · exact ⟨_, by omega, .inl ⟨_, .node hb ho' hx⟩⟩
      · exact ⟨_, by omega, .inr ⟨_, .deep hb ho' hx⟩⟩
theorem cds_ex {ix : Str → Option Int} {U : List Str} : ∀ (N : Nat) (l : List (List Str × Dd)) (σ : Sc), Dd.szs (l.map (·.2)) ≤ N → (∀ q ∈ l, gl U q.2) → σ.Ok → ∃ n, n ≤ 2 * Dd.szs (l.map (·.2)) ∧ ((∃ cs, Cds ix l σ cs n) ∨ ∃ z, Cbs ix l σ z n)
  | _, [], σ, _, _, _ => ⟨_, Nat.zero_le _, .inl ⟨_, .nil⟩⟩
  | N, q :: l, σ, h, hg, ho => by
    have h : q.2.sz + Dd.szs (l.map (·.2)) ≤ N := h
    have e : Dd.szs ((q :: l).map (·.2)) = q.2.sz + Dd.szs (l.map (·.2)) := rfl
    obtain ⟨n, hn, hx⟩ := cd_ex N q.2 (σ.ext q.1) (by omega) (hg q (List.mem_cons_self ..)) (ho.ext _)
    rcases hx with ⟨c, hx⟩ | ⟨z, hx⟩
    · obtain ⟨m, hm, hy⟩ := cds_ex N l σ (by omega) (fun q h => hg q (List.mem_cons_of_mem _ h)) ho
      rcases hy with ⟨cs, hy⟩ | ⟨z, hy⟩
      · exact ⟨_, by omega, .inl ⟨_, .cons hx hy⟩⟩
      · exact ⟨_, by omega, .inr ⟨_, .step hx hy⟩⟩
    · exact ⟨_, by omega, .inr ⟨_, .stop hx⟩⟩
end
end Toy

set_option Elab.async false
set_option linter.all false
set_option maxRecDepth 100000
set_option maxHeartbeats 4000000
/-! Part H6: own rules for errors: a base class's __init__ called by its class, a def that lets an error out, two clauses that name the error. -/
namespace Toy
open PySem PySem.Spec PyProof.Rows L2
section
variable {X : Cx} {o e : Expr} {es : List Expr} {ta : TA} {x : Str} {CN : Addr} {mc : Value} {p1 p2 pos : Pos}
/-- B.__init__(self, ..), B a class of the program that has ValueError's -/
theorem pe_binit {pl : Sem Bool} (hg : Gl X x) (hm : X.mg x = some (.ref CN)) (r : ClX.CRead X.K CN mc) (vV : PySem.W.findCls X.K (.ref CN) mc "__init__" = some (.val (.builtin "ValueError.__init__"))) (ha : PA X (e :: es) ta)
    (hdb : (x == ("__debug__" : Str)) = false := by decide)
    (hc : eval (.Call (.Attribute (.Name x p1) "__init__" p2) (e :: es) [] pos) X.env = (do
      let ov ← eval (.Name x p1) X.env
      standAt p2.atName
      let (f, first) ← holding [ov] (getMethod ov "__init__" pl)
      callWith pos f first (backTo pos (starEach (e :: es) X.env)) (backToKw pos (keywordEach [] X.env))) := by rfl)
    (he : starEach (e :: es) X.env = (false, eval e X.env) :: starEach es X.env := by rfl) (hpl : (backTo pos (starEach es X.env)).any (·.1) = false := by rfl) :
    PE X (.Call (.Attribute (.Name x p1) "__init__" p2) (e :: es) [] pos) (tVeI X.K ta) := by
  refine ⟨fun pins s σ H Q I h => ?_⟩
  refine PySem.W.methodCall_KW (ld_glob I hg hm ?_ hdb) hc
  refine PySem.W.method_cls I.kIn r.ga (PySem.W.cls_value I.kIn r.rd vV (by decide +kernel) ?_)
  show wpAny _ _ (callWith pos (Value.builtin "ValueError.__init__") [] (backTo pos (starEach (e :: es) X.env)) []) _ _ _
  refine PyProof.Rows.callWith_method1 (thn (ha.run pos pins _ σ H _ (I.tok _) h) fun us s1 ⟨vs, H1, I1, r1, a, C, ws, ev, hl, T, ea, q⟩ => ?_) he hpl
  subst ev
  cases r1 with
  | @cons _ u0 _ ur ra rw' =>
    obtain rfl : u0 = Value.ref a := ra
    have hlen : ur.length ≤ sizeLine := by
      rw [← Paired.length rw', sizeLine_eq]
      omega
    exact oinit_ok T I1 ea hlen fun s' J => ⟨.non, H1, J, rfl, q⟩
end
/-- a def that may let an error out, called by its name -/
structure CalX (P : Program) (w : World) (K : PySem.W.Frag) (mg : Str → Option Value) (base : Heap) (k : Nat) (x : Str) (sp : Sp) : Prop where
  ex : ∃ (f : Addr) (fd : FuncData) (ps : List Str), FnOk P w K mg base (L2.CX P w) k f fd ps sp ∧ mg x = some (.ref f) ∧ PySem.W.keepIn K (.ref f) = true ∧ Binds K fd ps []
section
variable {P : Program} {w : World} {K : PySem.W.Frag} {mg : Str → Option Value} {base : Heap}
theorem calX_of {x : Str} {st : Stmt} {f : Addr} {fd : FuncData} {N ps : List Str} {k : Nat} {sp : Sp} (F : Fun K x x st f fd) (hm : mg x = some (.ref f)) (b : Binds K fd ps []) (S : FnScope N ps (defScope st)) (len : ∀ vs H Q E, sp vs H Q E → vs.length = ps.length)
    (hbody : ∀ (cdv : Value) (A : Around) (outer : List Env) (s : Shared) (H : Hp) (vs : List V) (Q : VK) (E : XK), Room k (A.deeper (envOfC x (defScope st) s.heap.objs.size f cdv)) → sp vs H Q E →
      ∃ t, PSs (cxOf (L2.CX P w) P w K mg base N x (defScope st) f cdv A outer s H E) (defBody st) t ∧ t { nx := fun _ H' => Q .non H', rt := Q } (start N vs) H) : CalX P w K mg base (k + 1) x sp :=
  ⟨f, fd, ps, F.okX S len hbody, hm, F.kp, b⟩
end
theorem pe_cx {X : Cx} {k j : Nat} {x : Str} {sp : Sp} {W : WX} {p pos : Pos} {e : Expr} {es : List Expr} {t : TA} (c : CalX X.prog X.w X.K X.mg X.base k x sp) (hr : Room j X.A) (hk : k ≤ j) (hg : Gl X x) (tk : Takes X W) (ha : PA X (e :: es) t)
    (hdb : (x == ("__debug__" : Str)) = false := by decide) (he : starEach (e :: es) X.env = (false, eval e X.env) :: starEach es X.env := by rfl) (hpl : (backTo pos (starEach es X.env)).any (·.1) = false := by rfl) :
    PE X (.Call (.Name x p) (e :: es) [] pos) (tCallS sp (WE W) t) := by
  obtain ⟨f, fd, ps, F, hm, kp, b⟩ := c.ex
  exact pe_callS F (hr.mono hk) hg hm kp b (fun σ => passAt tk σ) ha hdb he hpl
section
variable {X : Cx} {n x1 x2 : Str} {c1 c2 : Value} {i : Nat} {body u1 u2 : List Stmt} {b1 b2 : Stmt} {np1 np2 q1 q2 pos : Pos} {tb : WX → TS} {t1 t2 : Addr → Value → Option Addr → TS} {Wout : WX}
/-- try: .. / except c1 as n: .. / except c2 as n: .. -/
theorem ps_try_as2 (hs : X.stack = X.env :: X.outer) (hf : X.env.frame = some X.env.locals) (hN : X.N.Nodup) (hi : X.N[i]? = some n) (hln : X.env.kindOf n = some .local) (hc1 : Names X x1 c1) (hc2 : Names X x2 c2) (tk : Takes X Wout)
    (hb : ∀ (W : WX) (pn : List (Addr × Obj)) (xe : Value → Shared → Prop), Takes (X.tr pn xe) W → PassesOwn (model X.prog X.w) X.A X.env xe → PSs (X.tr pn xe) body (tb W))
    (hu1 : ∀ (a : Addr) (oe : Obj) (cls : Value) (d : Option Addr) (pn : List (Addr × Obj)), Zc cls d oe → (∃ vs, oe.data = .fields vs) → PSs (X.suite a ((a, oe) :: pn)) (b1 :: u1) (t1 a cls d))
    (hu2 : ∀ (a : Addr) (oe : Obj) (cls : Value) (d : Option Addr) (pn : List (Addr × Obj)), Zc cls d oe → (∃ vs, oe.data = .fields vs) → PSs (X.suite a ((a, oe) :: pn)) (b2 :: u2) (t2 a cls d)) :
    PS X (.Try body [.ExceptHandler (some (.Name x1 np1)) (some n) (b1 :: u1) q1, .ExceptHandler (some (.Name x2 np2)) (some n) (b2 :: u2) q2] [] [] pos) (fun D σ H => tb (wAs X.K c1 i t1 (wAs X.K c2 i t2 Wout D) D) D σ H) := by
  refine ⟨fun pins s σ H D I h => ?_⟩
  have ok := I.ok
  have hfr : X.A.frames = some (X.env :: X.outer) := by rw [ok.frames, hs]
  have hloc : Loc X.env.scope n := .inl hln
  refine wpAny_Try_except ?_
  refine wpAny_mono ((hb _ (X.pn ++ pins) (fun e s₁ => wpAny (model X.prog X.w) X.A (noteFrame e X.env) (fun _ s₂ => wpAny (model X.prog X.w) X.A (setFlight e none) (fun _ s₃ =>
    wpAny (model X.prog X.w) X.A (handleBy e X.env [.ExceptHandler (some (.Name x1 np1)) (some n) (b1 :: u1) q1, .ExceptHandler (some (.Name x2 np2)) (some n) (b2 :: u2) q2]) (SP X pins D) X.xe s₃) X.xe s₂) X.xe s₁) (fun u s' air => ?_) PassesOwn.looking).run [] s σ H D (I.toTry _) h)
    (fun f s1 hsp => ?_) (fun e s1 he => he)
  · obtain ⟨a, B, sI, pins', σ', H', cls, d, rfl, J', nb, up, sky, na, os, ag, wish⟩ := air
    have J : Inv X pins σ' H' sI := J'.ofTry ok
    have sky' : Sky B (X.env :: X.outer) a (Zc cls d) X.env.locals s'.heap := by rw [← hs]; exact sky
    show wpAny (model X.prog X.w) X.A (noteFrame (.ref a) X.env) _ _ _
    refine Sky.land Zc.steady hfr hf sky' fun h3 fl3 up3 => ?_
    have J3 : Inv X pins σ' H' { s' with heap := h3 } := J.landed nb fl3.1 (up.trans up3) os ag
    obtain ⟨oe3, vs3, he3, hz3, hd3⟩ := fl3.there
    have nfr : a ∉ frs (X.env :: X.outer) := fun hm => by
      obtain ⟨_, o', e', hnf⟩ := fl3.2.2.1.mem hm
      rw [he3] at e'
      cases e'
      exact hnf _ hd3
    have nL : a ≠ X.env.locals := fun z => nfr (List.mem_filterMap.mpr ⟨X.env, List.mem_cons_self, by rw [hf, z]⟩)
    have nF : a ∉ X.fs := fun hm => by
      obtain ⟨e, he, q⟩ := List.mem_filterMap.mp hm
      exact nfr (List.mem_filterMap.mpr ⟨e, List.mem_cons_of_mem _ he, q⟩)
    have S3 := J3.suite he3 hd3 na nL nF
    -- one clause, whatever stands behind it
    have one : ∀ {x : Str} {c : Value} {ts : Addr → Value → Option Addr → TS} {b₀ : Stmt} {suite : List Stmt} {np q : Pos} {hds : List ExceptHandler} {Wn : WX}, Names X x c →
        (∀ (a : Addr) (oe : Obj) (cls : Value) (d : Option Addr) (pn : List (Addr × Obj)), Zc cls d oe → (∃ vs, oe.data = .fields vs) → PSs (X.suite a ((a, oe) :: pn)) (b₀ :: suite) (ts a cls d)) →
        wAs X.K c i ts Wn D cls d σ' H' → (Wn cls d σ' H' → wpAny (model X.prog X.w) X.A (handleBy (.ref a) X.env hds) (SP X pins D) X.xe { s' with heap := h3 }) →
        wpAny (model X.prog X.w) X.A (handleBy (.ref a) X.env (.ExceptHandler (some (.Name x np)) (some n) (b₀ :: suite) q :: hds)) (SP X pins D) X.xe { s' with heap := h3 } := by
      intro x c ts b₀ suite np q hds Wn hc hsu ⟨b, hb1, hyes, hno⟩ next
      refine wpAny_handleBy_cons (codeAny_handlers_test ?_) (by intro q; cases q)
      have LT : PySem.W.Looks (model X.prog X.w) h3 (typeOf (.ref a)) cls := fun A Q E s k q => wpAny_typeOf_ref (k _ _ he3) (by rw [hz3.1]; exact q)
      have LM := PySem.W.exm_one (M := model X.prog X.w) J3.kIn LT hb1
      have test : ∀ {Q : Value → Shared → Prop} {E : Value → Shared → Prop}, Q c { s' with heap := h3 } → wpAny (model X.prog X.w) (X.A.mark (some (.ref a))) (eval (.Name x np) X.env) Q E { s' with heap := h3 } := fun {Q E} q => by
        obtain ⟨hg, hdbg, hm | ⟨hm, hv, hnn⟩⟩ := hc
        · exact ld_glob (X := X.suite a ((a, oe3) :: (X.pn ++ pins))) S3 hg hm q hdbg
        · exact ld_blt (X := X.suite a ((a, oe3) :: (X.pn ++ pins))) S3 hg hm hv q hnn hdbg
      refine test (LM.here ?_)
      cases b with
      | false => exact next (hno rfl)
      | true =>
        refine codeAny_handlers_suite_as (HandSPX.lands_againZ fl3 fun h4 fl4 up4 => ?_)
        have J4 : Inv X pins σ' H' { s' with heap := h4 } := J.landed nb fl4.1 ((up.trans up3).trans up4) os ag
        obtain ⟨oe4, vs4, he4, hz4, hd4⟩ := fl4.there
        refine store_ok (X := X.suite a ((a, oe4) :: (X.pn ++ pins))) (v := .ref a) (J4.suite he4 hd4 na nL nF) hN hi hloc rfl (fun s5 S5 => ?_) (.inr hln)
        refine wpAny_mono ((hsu a oe4 cls d (X.pn ++ pins) hz4 ⟨_, hd4⟩).run [] s5 _ H' _ S5 (hyes rfl a na)) (fun f s6 hsp => ?_) (fun _ _ z => False.elim z)
        have leave : ∀ {σ6 : L2.St} {H6 : Hp} {Q : Shared → Prop}, Inv (X.suite a ((a, oe4) :: (X.pn ++ pins))) [] σ6 H6 s6 → (∀ s7, Inv X pins (σ6.set i none) H6 s7 → Q s7) →
            wpAny (model X.prog X.w) X.A (do bindName X.env n .none; unbindBehindTheSuite X.env n q) (fun _ s7 => Q s7) X.xe s6 := fun {σ6 H6 Q} S6 hq => gone_ok (S6.unsuite ok) hN hi hln hq
        cases f with
        | ret u =>
          obtain ⟨v6, σ6, H6, S6, r6, q6⟩ := hsp
          exact leave S6 fun s7 J7 => ⟨_, _, _, J7, r6, q6⟩
        | next =>
          obtain ⟨σ6, H6, S6, q6⟩ := hsp
          exact leave S6 fun s7 J7 => ⟨_, _, J7, q6⟩
        | brk =>
          obtain ⟨σ6, H6, S6, q6⟩ := hsp
          exact leave S6 fun s7 J7 => ⟨_, _, J7, q6⟩
        | cont =>
          obtain ⟨σ6, H6, S6, q6⟩ := hsp
          exact leave S6 fun s7 J7 => ⟨_, _, J7, q6⟩
    refine one hc1 hu1 wish fun wish2 => one hc2 hu2 wish2 fun wish3 => ?_
    -- no clause takes it
    refine wpAny_handleBy_nil ?_
    obtain ⟨k1, k2, k3, oe, vs, T, oT, ts', he, hz, hd, h1, hr⟩ := id fl3
    unfold PySem.passOn
    refine wpAny_bind (wpAny_field he hd h1 ?_)
    rw [if_neg (show ¬ ((Value.ref T == Value.none) = true) from by simp)]
    have fin : wpAny (model X.prog X.w) X.A (setFlight (.ref a) X.env.frame) (fun _ s4 => wpAny (model X.prog X.w) X.A (throw (.ref a) : Sem Flow) (SP X pins D) X.xe s4) X.xe { s' with heap := h3 } := by
      rw [hf]
      refine HandSPX.setFlight_upZ fl3 fun h4 hh4 up4 => wpAny_throw (tk _ _ ?_)
      exact ⟨a, B, sI, pins, σ', H', cls, d, rfl, J, nb, (up.trans up3).trans up4, .inr (.inr (by rw [hs]; exact hh4)), na, os, ag, wish3⟩
    first
      | exact wpAny_bind (wpAny_pure (wpAny_bind fin))
      | exact wpAny_bind fin
  · cases f with
    | next =>
      obtain ⟨σ', H', J', q⟩ := hsp
      exact wpAny_execs_nil ⟨σ', H', J'.ofTry ok, q⟩
    | brk =>
      obtain ⟨σ', H', J', q⟩ := hsp
      exact ⟨σ', H', J'.ofTry ok, q⟩
    | cont =>
      obtain ⟨σ', H', J', q⟩ := hsp
      exact ⟨σ', H', J'.ofTry ok, q⟩
    | ret u =>
      obtain ⟨v, σ', H', J', r, q⟩ := hsp
      exact ⟨v, σ', H', J'.ofTry ok, r, q⟩
end
def rIsX (K : PySem.W.Frag) (a : Addr) (cls : Value) (d : Option Addr) : List V → Hp → VK → Prop := fun xs H Q => ∃ (D dd : Addr) (fs : List (Str × V)) (c : V) (cv : Value) (b : Bool), xs = [.ref a, c] ∧ cls = .ref D ∧ ExcC K D ∧ d = some dd ∧ H dd = some (.xd fs) ∧
  (∀ u, RelV c u → u = cv) ∧ PySem.W.kitOne K (.ref D) cv = some b ∧ Q (.bl b) H
theorem call_isX {X : Cx} {a : Addr} {oe : Obj} {cls : Value} {d : Option Addr} {pn : List (Addr × Obj)} (hz : Zc cls d oe) (hf : ∃ vs, oe.data = .fields vs) : CallR (X.suite a ((a, oe) :: pn)) (.builtin "isinstance") (rIsX X.K a cls d) := by
  intro pins s σ H xs us Q I r h
  obtain ⟨D, dd, fs, c, cv, b, rfl, rfl, C, rfl, ea, hcv, e, q⟩ := h
  cases r with
  | cons rx rr =>
    cases rr with
    | cons rt rr =>
      cases rr
      cases rx
      have ec := hcv _ rt
      subst ec
      obtain ⟨hget, _⟩ := I.pin (a, oe) (List.mem_append.mpr (.inl List.mem_cons_self))
      obtain ⟨vs, hv⟩ := hf
      have hx : ObjOk X.prog X.w H s.heap dd (.xd fs) := I.hok dd _ ea
      obtain ⟨mA, hns, hr⟩ := hx
      obtain ⟨od, ho, hl⟩ := lookIn_ns hns
      have J : PySem.W.InstAt s.heap a oe D (some od) := ⟨hget, hz.1, by unfold PySem.W.notCls; rw [hv] <;> rfl, by rw [hz.2]; exact ho⟩
      have hcl : (PySem.W.clsIn X.K D).isSome = true := by
        obtain ⟨cd, hc, _⟩ := PySem.W.any_some C.hd
        rw [hc] <;> rfl
      exact PySem.W.kia_one (PySem.W.kitx_exc hcl C.hg C.hk C.hs C.ha C.hn C.ht C.hm) I.kIn J e (fun z => nomatch z) fun tk => ⟨.bl b, H, I.kept (t' := tk) fun _ _ z => z, rfl, q⟩

/-! ### y = {k: v for ..} -/
section
variable {X : Cx}
theorem ps_setDc {i : Nat} {y : Str} {py : Pos} {kx vx tg iter : Expr} {ifs : List Expr} {scope : Scope} {own : List (Str × Nat)} {pos spos : Pos} {wi : TI} {g : TG} {tt : TT} {tk tv : TE} (hc : X.calm = true) (hN : X.N.Nodup) (hy : X.N[i]? = some y) (hyl : X.env.scope.names.lookup y = some .local)
    (hsw : swapsWith (.DictComp kx vx [⟨tg, iter, ifs, 0⟩] scope pos) (some (.Name y py)) spos.line X.env = pure true) (hi : PI X tg iter wi) (ok : BlkOk X.N X.env.scope scope own)
    (hg : ∀ (s : Shared) (H : Hp) (C : Addr) (cl : List (Str × Addr)) (fp : List Addr), PG (X.blk s H scope (compEnvC scope cl C X.env) fp) tg g) (ht : ∀ (s : Shared) (H : Hp) (C : Addr) (cl : List (Str × Addr)) (fp : List Addr), PTs (X.blk s H scope (compEnvC scope cl C X.env) fp) ifs tt)
    (hk : ∀ (s : Shared) (H : Hp) (C : Addr) (cl : List (Str × Addr)) (fp : List Addr), PE (X.blk s H scope (compEnvC scope cl C X.env) fp) kx tk)
    (he : ∀ (s : Shared) (H : Hp) (C : Addr) (cl : List (Str × Addr)) (fp : List Addr), PE (X.blk s H scope (compEnvC scope cl C X.env) fp) vx tv) (hs : ∀ x, foldedSetIterable iter X.env x = pure x := by intro _; rfl) :
    PS X (.Assign [.Name y py] (.DictComp kx vx [⟨tg, iter, ifs, 0⟩] scope pos) spos) (tAsg (tDc wi g tt tk tv (own.map (·.2))) (gName i)) := by
  refine ⟨fun pins s σ H D I h => ?_⟩
  rw [exec_Assign_Name_used _ _ _ _ hsw]
  refine wpAny_bind (wpAny_standAt (wpAny_bind ?_))
  show wpAny _ X.A (do let _ ← comprehension (.DictComp kx vx [⟨tg, iter, ifs, 0⟩] scope pos) scope X.env (firstIterPos [⟨tg, iter, ifs, 0⟩] pos) newDict false (eval iter X.env) (some (assign (.Name y py) X.env))) _ _ s
  have h : tDc wi g tt tk tv (own.map (·.2)) σ H (fun x H1 => gName i x σ H1 D.nx) := h
  refine wpAny_bind (thn (dc_core (Qf := fun _ s' => SP X pins D .next s') hc hN I hi ok hg ht hk he hs h fun L C s' m H' I' q hn f => ?_) fun _ s' hq => wpAny_pure (wpAny_pure hq))
  show wpAny _ _ (assign (.Name y py) X.env (.ref L)) _ _ _
  refine wpAny_assign_Name (store_ok2 (v := V.ref L) I' hN hy (.inl hyl) rfl (fun s2 I2 ⟨a, sb, ha⟩ => ?_) (.inr hyl))
  obtain ⟨f0, f1, f2, f3, f4, f5⟩ := f
  have haC : C ≠ a := by
    rcases ha with z | z
    · rw [z]; exact f1
    · exact fun e => f4 y a z e.symm
  refine ⟨m, hn.sameBut sb haC, fun h3 sb3 => ?_⟩
  exact ⟨_, H', I2.turned (t' := s2.toks) (fun b o hb e => (sb3.2 b hb).trans e) f0 f1 f3 f4 f5, q⟩
theorem sw_trueD {kx vx : Expr} {gs : List Comprehension} {scope : Scope} {pos py : Pos} {y : Str} {l : Nat} {env : Env} (hk : env.scope.kind = .function) (hy : env.scope.names.lookup y = some .local) (hl : (py.line == pos.line) = true)
    (ha : (scope.names.any fun (n, k) => n == y && (k == .local || k == .cell)) = false) : swapsWith (.DictComp kx vx gs scope pos) (some (.Name y py)) l env = pure true := by
  have ky : env.kindOf y = some .local := hy
  have hb : env.blockKind = .function := by unfold Env.blockKind; rw [hk]; rfl
  unfold swapsWith
  simp only [hb, ky, ha, Expr.pos, hl]
  rfl
end
/-- an error of the program: its class, and its __init__ -/
structure ErrC (K : PySem.W.Frag) (mg : Str → Option Value) (C fI : Addr) (nm : Str) : Prop where
  o : OexC K C
  i : PySem.W.findIn K (.ref C) "__init__" = some (some (.ref fI))
  t : PySem.W.typeIn K (.ref fI) = some (.type "function")
  n : PySem.W.findIn K (.ref C) "name" = some none
  x : XfC K C
  e : ExcC K C
  g : mg nm = some (.ref C)
structure ErrB (K : PySem.W.Frag) (mg : Str → Option Value) (CC : Addr) : Prop where
  gC : mg "CodeError" = some (.ref CC)
  rC : ClX.CRead K CC (.type "type")
  vC : PySem.W.findCls K (.ref CC) (.type "type") "__init__" = some (.val (.builtin "ValueError.__init__"))
def nameF (z : Str) : List (Str × V) := [(("name" : Str), .str z)]
def spInitN (K : PySem.W.Frag) : Sp := fun vs H Q _ => ∃ (a C : Addr) (z : Str), vs = [.ref a, .str z] ∧ z.length ≤ 1000 ∧ OexC K C ∧ PySem.W.findIn K (.ref C) "name" = some none ∧ H a = some (exo a C none) ∧
  ∀ dx, H dx = none → dx ≠ a → Q .non (upd (upd H dx (exd dx (nameF z))) a (exo a C (some dx)))
section
variable {P : Program} {w : World} {K : PySem.W.Frag} {mg : Str → Option Value} {base : Heap}
abbrev sUnkI : Stmt := inClass (topS 23) 0
theorem scUnkI : FnScope ["self", "name"] ["self", "name"] (defScope sUnkI) := ⟨rfl, rfl, rfl, by decide +kernel, rfl, by decide +kernel, by decide +kernel⟩
theorem ok_UnkI {CC f : Addr} {fd : FuncData} (R : ErrB K mg CC) (F : Fun K "__init__" "Unknown.__init__" sUnkI f fd) : FnOk P w K mg base CX0 1 f fd ["self", "name"] (spInitN K) := by
  refine F.ok scUnkI (fun vs H Q E h => ?_) (fun cdv A outer s H vs Q E hr h => ?_)
  · obtain ⟨a, C, z, rfl, _⟩ := h
    rfl
  obtain ⟨a, C, z, rfl, hz, O, n1, e, q⟩ := h
  refine ⟨_, (pss_cons (ps_expr (pe_binit rfl R.gC R.rC R.vC (pa_cons (pv 0) (pa_cons (pe_joined1 (pe_fmt (pv 1))) pa_nil))))
    (pss_one (ps_ost (pv 0) (pv 1)))), ?_⟩
  have lz : 1000 ≤ sizeLine := by rw [sizeLine_eq]; decide
  refine ⟨_, rfl, _, rfl, .inl ⟨z, rfl, by omega, ?_⟩⟩
  refine ⟨a, C, _, rfl, (by show 1 ≤ 1000; decide), O, e, ?_⟩
  exact ⟨_, rfl, _, rfl, a, C, rfl, O, n1, .inl ⟨e, fun dx hdx nda => q dx hdx nda⟩⟩
abbrev sBarI : Stmt := inClass (topS 24) 0
theorem scBarI : FnScope ["self", "name"] ["self", "name"] (defScope sBarI) := ⟨rfl, rfl, rfl, by decide +kernel, rfl, by decide +kernel, by decide +kernel⟩
theorem ok_BarI {CC f : Addr} {fd : FuncData} (R : ErrB K mg CC) (F : Fun K "__init__" "BadArity.__init__" sBarI f fd) : FnOk P w K mg base CX0 1 f fd ["self", "name"] (spInitN K) := by
  refine F.ok scBarI (fun vs H Q E h => ?_) (fun cdv A outer s H vs Q E hr h => ?_)
  · obtain ⟨a, C, z, rfl, _⟩ := h
    rfl
  obtain ⟨a, C, z, rfl, hz, O, n1, e, q⟩ := h
  refine ⟨_, (pss_cons (ps_expr (pe_binit rfl R.gC R.rC R.vC (pa_cons (pv 0) (pa_cons (pe_joined1 (pe_fmt (pv 1))) pa_nil))))
    (pss_one (ps_ost (pv 0) (pv 1)))), ?_⟩
  have lz : 1000 ≤ sizeLine := by rw [sizeLine_eq]; decide
  refine ⟨_, rfl, _, rfl, .inl ⟨z, rfl, by omega, ?_⟩⟩
  refine ⟨a, C, _, rfl, (by show 1 ≤ 1000; decide), O, e, ?_⟩
  exact ⟨_, rfl, _, rfl, a, C, rfl, O, n1, .inl ⟨e, fun dx hdx nda => q dx hdx nda⟩⟩
theorem raise_read {C fI : Addr} {nm z : Str} (R : ErrC K mg C fI nm) {H : Hp} {Q : XK} (hz : z.length ≤ 1000) (q : ∀ d, H d = none → Q (.ref C) (some d) (upd H d (.xd (nameF z)))) :
    ∀ a, H a = none → spInitN K (.ref a :: ([.str z] ++ [])) (upd H a (exo a C none))
      (fun v H2 => v = .non ∧ ∃ (d : Addr) (fs : List (Str × V)), H2 a = some (exo a C (some d)) ∧ H2 d = some (exd d fs) ∧ H d = none ∧ Q (.ref C) (some d) (upd (del H2 a) d (.xd fs))) (fun _ _ _ => False) := by
  intro a ha
  refine ⟨a, _, z, rfl, hz, R.o, R.n, upd_same, fun dx hdx nda => ⟨rfl, dx, nameF z, upd_same, (by rw [upd_ne nda, upd_same]), ?_, ?_⟩⟩
  · rw [upd_ne nda] at hdx
    exact hdx
  · have hd0 : H dx = none := by
      rw [upd_ne nda] at hdx
      exact hdx
    have e : upd (del (upd (upd (upd H a (exo a C none)) dx (exd dx (nameF z))) a (exo a C (some dx))) a) dx (.xd (nameF z)) = upd H dx (.xd (nameF z)) := by
      funext b
      by_cases h1 : b = dx
      · rw [h1, upd_same, upd_same]
      · rw [upd_ne h1, upd_ne h1]
        by_cases h2 : b = a
        · rw [h2, del_same, ha]
        · rw [del_ne h2, upd_ne h2, upd_ne h1, upd_ne h2]
    rw [e]
    exact q dx hd0
structure Errs (P : Program) (w : World) (K : PySem.W.Frag) (mg : Str → Option Value) (base : Heap) (CU CB fU fB : Addr) (fdU fdB : FuncData) : Prop where
  U : ErrC K mg CU fU "Unknown"
  B : ErrC K mg CB fB "BadArity"
  cU : FnOk P w K mg base CX0 1 fU fdU ["self", "name"] (spInitN K)
  cB : FnOk P w K mg base CX0 1 fB fdB ["self", "name"] (spInitN K)
  bU : Binds K fdU ["self", "name"] []
  bB : Binds K fdB ["self", "name"] []
end
/-- in a comprehension's block -/
theorem pe_cxB {X : Cx} {s0 : Shared} {H0 : Hp} {scope : Scope} {cenv : Env} {fp : List Addr} {E : XK} {k j : Nat} {x : Str} {sp : Sp} {p pos : Pos} {e : Expr} {es : List Expr} {t : TA} (c : CalX X.prog X.w X.K X.mg X.base k x sp) (hr : Room j X.A) (hk : k ≤ j) (hg : Gl (X.blkX s0 H0 scope cenv fp E) x) (ha : PA (X.blkX s0 H0 scope cenv fp E) (e :: es) t)
    (hdb : (x == ("__debug__" : Str)) = false := by decide) (he : starEach (e :: es) cenv = (false, eval e cenv) :: starEach es cenv := by rfl) (hpl : (backTo pos (starEach es cenv)).any (·.1) = false := by rfl) :
    PE (X.blkX s0 H0 scope cenv fp E) (.Call (.Name x p) (e :: es) [] pos) (tCallS sp (fun _ => E) t) := by
  obtain ⟨f, fd, ps, F, hm, kp, b⟩ := c.ex
  exact pe_callS (X := X.blkX s0 H0 scope cenv fp E) F (hr.mono hk) hg hm kp b (fun σ => passB σ) ha hdb he hpl
end Toy

set_option Elab.async false
set_option linter.all false
set_option maxRecDepth 100000
set_option maxHeartbeats 4000000
/-! Part I6: own rules: enumerate of a tuple; scopes in the heap; _operand, _extended, _beginning. -/
namespace L2
open PySem PySem.Spec PyProof.Rows
set_option maxHeartbeats 1000000 in
theorem meets_enumT (t : Addr) (items : Array Value) :
    Meets (Builtin.«enumerate.__new__» ⟨[.type "enumerate", .ref t], []⟩) (fun _ R s => s.heap.IsTuple t items ∧
      R (.ok (.ret (.ref (s.heap.push { cls := .type "tuple_iterator", data := .fields #[.ref t, .int 0 0] }).objs.size)))
        { s with heap := (s.heap.push { cls := .type "tuple_iterator", data := .fields #[.ref t, .int 0 0] }).push { cls := .type "enumerate", data := .fields #[.none, .bool false, .ref s.heap.objs.size, rawInt 0, .none, .none] } }) :=
  .of_wp fun prog w A R s h => by
    obtain ⟨hp, g, d, tk, os⟩ := s; obtain ⟨h1, h⟩ := h
    have hsub := sub_enumerate
    have q1 : ∀ {A' : Around} {E : Value → Shared → Prop} {Q : Value → Shared → Prop}, Q (.ref hp.objs.size) ⟨hp.push { cls := .type "tuple_iterator", data := .fields #[.ref t, .int 0 0] }, g, d, tk, os⟩ → wpAny (model prog w) A' (pyIter (.ref t)) Q E ⟨hp, g, d, tk, os⟩ :=
      fun q => (begins_tuple t items).iter prog w _ _ ⟨hp, g, d, tk, os⟩ _ h1 q
    wp_walk using q1
    refine wpAny_stack_any fun st => wpAny_pure ?_
    split
    · rename_i c _ _ _ _ _
      cases (c == Value.type "enumerate")
      · wp_walk using q1
        exact ⟨_, rfl, h⟩
      · wp_walk using q1
        exact ⟨_, rfl, h⟩
    · wp_walk using q1
      exact ⟨_, rfl, h⟩
theorem call_enumT {prog : Program} {w : World} {A : Around} {E : Value → Shared → Prop} {s : Shared} {t : Addr} {items : Array Value} {Q : Value → Shared → Prop} (hT : s.heap.IsTuple t items)
    (h : ∀ h', IsEnum h' (s.heap.objs.size + 1) s.heap.objs.size 0 .none → h'.IsTupleIter s.heap.objs.size t 0 → h'.IsTuple t items → h'.objs.size = s.heap.objs.size + 2 →
      (∀ b o, s.heap.get? b = some o → h'.get? b = some o) → Q (.ref (s.heap.objs.size + 1)) { s with heap := h' }) :
    wpAny (model prog w) A (call (.type "enumerate") [.ref t]) Q E s := by
  refine callType_new F.called_enumerate (by decide) (F.typeCall_enumerate_1 _) (F.newCall_enumerate_1 _) (fun obj => F.args_object_init_2 obj _) F.entry_enumerate_new
    (meets_enumT t items) ⟨hT, ?_⟩
  have hz : (s.heap.push { cls := .type "tuple_iterator", data := .fields #[.ref t, .int 0 0] }).objs.size = s.heap.objs.size + 1 := Heap.size_push ..
  show _ ∧ _
  rw [hz]
  have he : IsEnum ((s.heap.push { cls := .type "tuple_iterator", data := .fields #[.ref t, .int 0 0] }).push
      { cls := .type "enumerate", data := .fields #[.none, .bool false, .ref s.heap.objs.size, rawInt 0, .none, .none] }) (s.heap.objs.size + 1) s.heap.objs.size 0 .none := by
    have := Heap.get?_push_size (s.heap.push { cls := .type "tuple_iterator", data := .fields #[.ref t, .int 0 0] })
      (o := { cls := .type "enumerate", data := .fields #[.none, .bool false, .ref s.heap.objs.size, rawInt 0, .none, .none] }) rfl
    rw [hz] at this; exact this
  refine ⟨⟨_, he, rfl⟩, h _ he ⟨_, Heap.get?_push_of_some _ (Heap.get?_push_size _ rfl), rfl, rfl⟩ ((hT.push _).push _) (by rw [Heap.size_push, hz]) fun b o x => Heap.get?_push_of_some _ (Heap.get?_push_of_some _ x)⟩
/-- the tuple at a, each item in a new pair -/
def IteT (K : PySem.W.Frag) (a : Addr) : It :=
  ⟨fun i H => ∃ (xs : List V) (x : V), SqT K H a xs ∧ xs[i]? = some x, fun i H v H' => ∃ T x, v = .ref T ∧ H T = none ∧ H' = upd H T (.tup [.int (i : Nat), x]) ∧ ∀ xs, SqT K H a xs → xs[i]? = some x, fun i H => ∃ xs : List V, SqT K H a xs ∧ xs.length ≤ i⟩
theorem turn_enumT {P : Program} {w : World} {K : PySem.W.Frag} {elts : List Expr} {kk : Nat} {tpos : Pos} (a e it : Addr) (items : Array Value) (hat : a ≠ it) (hae : a ≠ e) :
    Turn P w K (.Tuple elts kk tpos) (IteT K a) [e, it] e (fun i h => (∃ old, IsEnum h e it ((i : Nat) : Int) old) ∧ h.IsTupleIter it a i ∧ e ≠ it) where
  mem := by simp
  obj := fun i h st b hb => by
    obtain ⟨⟨old, he⟩, ⟨o, ho, hc, hd⟩, _⟩ := st
    have e' : b = e ∨ b = it := by simpa using hb
    rcases e' with z | z
    · rw [z]; exact ⟨_, he, fun v q => nomatch q⟩
    · rw [z]; exact ⟨o, ho, fun v q => by rw [hd] at q; cases q⟩
  keep := fun i h h' st k => let ⟨⟨old, he⟩, hi, hne⟩ := st; ⟨⟨old, k e (by simp) _ he⟩, hi.at fun o q => k it (by simp) o q, hne⟩
  item := by
    intro X hP hw hK hc i pins s σ H E I hf st hg
    subst hP hw hK
    obtain ⟨⟨old, he⟩, hit, hne⟩ := st
    obtain ⟨xs, x, hq, hx⟩ := hg
    obtain ⟨its, rv, p, hz⟩ := I.tuple hq
    obtain ⟨u, hu, ru⟩ := rv.get hx
    have hel : e < s.heap.objs.size := Heap.lt_size he
    have hil : it < s.heap.objs.size := by obtain ⟨_, q, _⟩ := hit; exact Heap.lt_size q
    refine wpAny_pyNext_enum_itemD (Draws.tuple (A := X.A.in1) (show X.A.in1.handled = none from I.ok.hd hc) it a hat its.toArray) he ⟨hit, p⟩ (by rw [List.size_toArray]; exact (List.getElem?_eq_some_iff.mp hu).1) hne (by simp [hne, Ne.symm hae]) fun y h' tk hy ho hst' hT hsz hk => ?_
    have ey : y = u := by
      have : its[i]? = some y := by simpa using hy
      rw [hu] at this
      exact (Option.some.inj this).symm
    subst ey
    refine ⟨_, rfl, wpAny_letOwnedTupleGo_enum (s := { s with heap := h', toks := tk + 1 }) ho fun h'' he' sb => ?_⟩
    have hT2 : h''.get? s.heap.objs.size = some { cls := .type "tuple", data := .seq #[.int i tk, y] } := (sb.2 _ (Nat.ne_of_gt hel)).trans hT
    have new : ObjOk X.prog X.w (upd H s.heap.objs.size (.tup [.int (i : Nat), x])) h'' s.heap.objs.size (.tup [.int (i : Nat), x]) :=
      ⟨by show 2 ≤ sizeLine; decide, [.int i tk, y], .cons ⟨_, rfl⟩ (.cons ru .nil), ⟨_, hT2, rfl, _, rfl⟩⟩
    have I1 : Inv X pins σ (upd H s.heap.objs.size (.tup [.int (i : Nat), x])) { s with heap := h'', toks := tk + 1 } :=
      I.turnedNew (ch := [e, it]) (fun b ob hb q => (sb.2 b (fun z => hb (by simp [z]))).trans (hk b ob (fun z => hb (by simp [z])) (fun z => hb (by simp [z])) q)) hf (Nat.le_refl _) new
    refine ⟨.ref s.heap.objs.size, _, I1, rfl, ⟨_, x, rfl, I.hok.fresh (Nat.le_refl _), rfl, fun ys hy => by rw [I.tuple_inj hy hq]; exact hx⟩, ⟨⟨y, ?_⟩, hst'.1.at fun o q => (sb.2 it (Ne.symm hne)).trans q, hne⟩, fun b hb => ?_⟩
    · have e1 : ((i + 1 : Nat) : Int) = (i : Int) + 1 := by omega
      rw [e1]; exact he'
    · have hb' : b < s.heap.objs.size := by
        have e' : b = e ∨ b = it := by simpa using hb
        rcases e' with z | z
        · rw [z]; exact hel
        · rw [z]; exact hil
      rw [upd_ne (Nat.ne_of_lt hb')]
      exact (hf b hb).1
  done := by
    intro X hP hw hK hc i pins s σ H E I hf st hg
    subst hP hw hK
    obtain ⟨⟨old, he⟩, hit, hne⟩ := st
    obtain ⟨xs, hq, hx⟩ := hg
    obtain ⟨its, rv, p, hz⟩ := I.tuple hq
    obtain ⟨f0, f1, f2, f3, f4, f5⟩ := hf it (by simp)
    have hl := rv.length
    have hT : s.TypeIs (.ref e) "enumerate" := ⟨_, he, rfl⟩
    unfold pyNext
    refine wpAny_bind (wpAny_attempt (wpAny_callSpecial?_slot (name := Str.ofString "__next__") hT F.slot_enumerate_next
      (wpAny_call_entry F.slot_enumerate_next hT F.entry_enumerate_next ?_ (F.args_enumerate_next_1 _))))
    show wpAny _ _ (field (.ref e) 2 >>= _) _ _ _
    refine wpAny_bind (wpAny_field he rfl (x := .ref it) rfl ?_)
    refine wpAny_bind (wpAny_nextOf_tuple_end (I.ok.hd hc) hit p (by simp; omega) fun h' ex he' hx' => ?_)
    obtain ⟨o, ho, hcx⟩ := hx'
    refine wpAny_bind (wpAny_isInstance (T := "StopIteration") (b := true) ⟨o, ho, hcx⟩ isSubtype_stop ?_)
    exact wpAny_pure ⟨rfl, I.turned (t' := s.toks) (fun b o hb q => he' b o hb q) f0 f1 f3 f4 f5⟩
  self := fun A i s Q E st h => let ⟨⟨_, he⟩, _⟩ := st; wpAny_pyIter_enum he h
def iEnumT (K : PySem.W.Frag) (ta : TA) : TI := fun σ H R => ta σ H fun vs H1 => ∃ a xs, vs = [.ref a] ∧ SqT K H1 a xs ∧ R (IteT K a) H1
theorem pi_enumT {X : Cx} {e : Expr} {ta : TA} {p pos tpos : Pos} {elts : List Expr} {kk : Nat} (hg : Gl X "enumerate") (hm : X.mg "enumerate" = none) (ha : PA X [e] ta) (hs : starEach [e] X.env = [(false, eval e X.env)] := by rfl) :
    PI X (.Tuple elts kk tpos) (.Call (.Name "enumerate" p) [e] [] pos) (iEnumT X.K ta) := by
  refine ⟨fun pins s σ H R I h => ?_⟩
  refine Call_ (ld_blt I hg hm boot_enumerate (PyProof.Rows.callWith_type1 (thn (ha.run pos pins s σ H _ I h) fun us s1 ⟨vs, H1, I1, r1, q1⟩ => ?_) hs rfl))
  obtain ⟨a, xs, ex, hq, q⟩ := q1
  subst ex
  cases r1 with
  | cons r rr =>
    cases rr
    cases r
    obtain ⟨its, rv, p', hz⟩ := I1.tuple hq
    have hal : a < s1.heap.objs.size := by obtain ⟨_, q, _⟩ := p'; exact Heap.lt_size q
    refine call_enumT p' fun h' he hit ht' hsz hk => wpAny_pyIter_enum he ?_
    have I2 : Inv X pins σ H1 { s1 with heap := h' } := I1.kept (t' := s1.toks) hk
    refine ⟨s1.heap.objs.size + 1, [s1.heap.objs.size + 1, s1.heap.objs.size], _, _, H1, rfl, I2, turn_enumT a (s1.heap.objs.size + 1) s1.heap.objs.size its.toArray (Nat.ne_of_lt hal) (Nat.ne_of_lt (Nat.lt_succ_of_lt hal)), ⟨⟨.none, he⟩, hit, Nat.succ_ne_self _⟩, fun b hb => ?_, q⟩
    have e' : b = s1.heap.objs.size + 1 ∨ b = s1.heap.objs.size := by simpa using hb
    have hle : s1.heap.objs.size ≤ b := by
      rcases e' with z | z
      · rw [z]; exact Nat.le_add_right _ _
      · rw [z]; exact Nat.le_refl _
    exact I1.fpOk hle (I1.hok.fresh hle)
/-- a loop over it -/
theorem for_enumT {K : PySem.W.Frag} {a : Addr} {xs : List V} {g : TG} {tb : TS} {D : Ends} {σ : L2.St} {H : Hp} (Pv : Nat → L2.St → Hp → Prop) (h0 : Pv 0 σ H) (hq : ∀ i σ H, Pv i σ H → SqT K H a xs)
    (hs : ∀ (i : Nat) (x : V) (T : Addr) (σ : L2.St) (H : Hp), xs[i]? = some x → Pv i σ H → H T = none → g (.ref T) σ (upd H T (.tup [.int (i : Nat), x])) fun σ2 H2 => tb { D with nx := Pv (i + 1), ct := Pv (i + 1), bk := D.nx } σ2 H2) (hd : ∀ σ H, Pv xs.length σ H → D.nx σ H) :
    ∃ W : Nat → Nat → L2.St → Hp → Prop, (∃ m, W 0 m σ H) ∧ ∀ i m σ H, W i m σ H →
      ((IteT K a).stop i H ∧ D.nx σ H) ∨ ((IteT K a).go i H ∧ ∃ N : L2.St → Hp → Prop, (∀ σ' H', N σ' H' → ∃ m', m' < m ∧ W (i + 1) m' σ' H') ∧ ∀ v H', (IteT K a).yld i H v H' → g v σ H' fun σ2 H2 => tb { D with nx := N, ct := N, bk := D.nx } σ2 H2) := by
  refine ⟨fun i m σ H => m = xs.length - i ∧ i ≤ xs.length ∧ Pv i σ H, ⟨xs.length, rfl, Nat.zero_le _, h0⟩, ?_⟩
  rintro i m σ H ⟨rfl, hi, p⟩
  have qx := hq i σ H p
  rcases Nat.lt_or_ge i xs.length with lt | ge
  · refine .inr ⟨⟨xs, xs[i], qx, List.getElem?_eq_getElem lt⟩, Pv (i + 1), fun σ' H' p' => ⟨xs.length - (i + 1), by omega, rfl, lt, p'⟩, fun v H' hy => ?_⟩
    obtain ⟨T, x', rfl, hT, rfl, f1⟩ := hy
    exact hs i x' T σ H (f1 xs qx) p hT
  · have e : i = xs.length := by omega
    subst e
    exact .inl ⟨⟨xs, qx, Nat.le_refl _⟩, hd σ H p⟩
/-- a loop over it -/
theorem for_enumL {K : PySem.W.Frag} {a : Addr} {xs : List V} {g : TG} {tb : TS} {D : Ends} {σ : L2.St} {H : Hp} (Pv : Nat → L2.St → Hp → Prop) (h0 : Pv 0 σ H) (hq : ∀ i σ H, Pv i σ H → SqL K H a xs)
    (hs : ∀ (i : Nat) (x : V) (T : Addr) (σ : L2.St) (H : Hp), xs[i]? = some x → Pv i σ H → H T = none → g (.ref T) σ (upd H T (.tup [.int (i : Nat), x])) fun σ2 H2 => tb { D with nx := Pv (i + 1), ct := Pv (i + 1), bk := D.nx } σ2 H2) (hd : ∀ σ H, Pv xs.length σ H → D.nx σ H) :
    ∃ W : Nat → Nat → L2.St → Hp → Prop, (∃ m, W 0 m σ H) ∧ ∀ i m σ H, W i m σ H →
      ((Ite K a).stop i H ∧ D.nx σ H) ∨ ((Ite K a).go i H ∧ ∃ N : L2.St → Hp → Prop, (∀ σ' H', N σ' H' → ∃ m', m' < m ∧ W (i + 1) m' σ' H') ∧ ∀ v H', (Ite K a).yld i H v H' → g v σ H' fun σ2 H2 => tb { D with nx := N, ct := N, bk := D.nx } σ2 H2) := by
  refine ⟨fun i m σ H => m = xs.length - i ∧ i ≤ xs.length ∧ Pv i σ H, ⟨xs.length, rfl, Nat.zero_le _, h0⟩, ?_⟩
  rintro i m σ H ⟨rfl, hi, p⟩
  have qx := hq i σ H p
  rcases Nat.lt_or_ge i xs.length with lt | ge
  · refine .inr ⟨⟨xs, xs[i], qx, List.getElem?_eq_getElem lt⟩, Pv (i + 1), fun σ' H' p' => ⟨xs.length - (i + 1), by omega, rfl, lt, p'⟩, fun v H' hy => ?_⟩
    obtain ⟨T, x', rfl, hT, rfl, f1⟩ := hy
    exact hs i x' T σ H (f1 xs qx) p hT
  · have e : i = xs.length := by omega
    subst e
    exact .inl ⟨⟨xs, qx, Nat.le_refl _⟩, hd σ H p⟩
end L2
namespace Toy
open PySem L2
open PyProof.Rows (envOfC boot_dict)
/-- a dict of names and their places -/
structure SlAt (kvs : List (Key × V)) (f : Str → Option Int) (U : List Str) : Prop where
  val : ∀ s, valV kvs (Sum.inr s) = (f s).map V.int
  keys : ∃ ks : List Str, kvs.map (·.1) = ks.map Sum.inr ∧ ks.Nodup ∧ ∀ s ∈ ks, s ∈ U
theorem SlAt.len {kvs : List (Key × V)} {f : Str → Option Int} {U : List Str} (h : SlAt kvs f U) : kvs.length ≤ U.length := by
  obtain ⟨ks, e, n, m⟩ := h.keys
  have e := congrArg List.length e
  rw [List.length_map, List.length_map] at e
  rw [e]
  exact nodup_len n m
theorem SlAt.nil {U : List Str} : SlAt [] noF U := ⟨fun _ => rfl, [], rfl, List.nodup_nil, fun _ h => by cases h⟩
theorem SlAt.put {kvs : List (Key × V)} {f : Str → Option Int} {U : List Str} (h : SlAt kvs f U) {x : Str} (i : Int) (hx : x ∈ U) : SlAt (putK kvs (Sum.inr x) (.int i)) (ext1 f x i) U := by
  refine ⟨fun s => ?_, ?_⟩
  · rw [valV_put]
    unfold ext1
    by_cases e : s = x
    · rw [if_pos (by rw [e]), if_pos e]
      rfl
    · rw [if_neg fun z => e (Sum.inr.inj z), if_neg e, h.val s]
  · obtain ⟨ks, e, n, m⟩ := h.keys
    refine ⟨addS ks x, ?_, nodup_addS n, fun s hs => (mem_addS.mp hs).elim (m s) fun z => z ▸ hx⟩
    rw [putK_keys, e]
    unfold addS
    by_cases hm : x ∈ ks
    · rw [if_pos hm, if_pos]
      rw [List.any_eq_true]
      exact ⟨Sum.inr x, List.mem_map.mpr ⟨x, hm, rfl⟩, decide_eq_true rfl⟩
    · rw [if_neg hm, if_neg, List.map_append]
      · rfl
      · rw [List.any_eq_true]
        rintro ⟨j, hj, hj2⟩
        obtain ⟨y, hy, rfl⟩ := List.mem_map.mp hj
        have : y = x := Sum.inr.inj (of_decide_eq_true hj2)
        exact hm (this ▸ hy)
structure TxtO (mg : Str → Option Value) : Prop where
  zisinstance : mg "isinstance" = none
  zstr : mg "str" = none
  zdict : mg "dict" = none
  zlen : mg "len" = none
  zenumerate : mg "enumerate" = none
section
variable {P : Program} {w : World} {K : PySem.W.Frag} {mg : Str → Option Value} {base : Heap} {CU CB fU fB : Addr} {fdU fdB : FuncData}
abbrev sOperand : Stmt := topS 33
theorem scOperand : FnScope ["atom", "slots", "indexes"] ["atom", "slots", "indexes"] (defScope sOperand) := ⟨rfl, rfl, rfl, by decide +kernel, rfl, by decide +kernel, by decide +kernel⟩
def spOperand (CU : Addr) : Sp := fun vs H Q E => ∃ (B : Addr → Prop) (v : V) (a : Dd) (sd id : Addr) (kvs kws : List (Key × V)) (f ix : Str → Option Int) (U U' : List Str), vs = [v, .ref sd, .ref id] ∧ a.At B H v ∧ isAtm a = true ∧ H sd = some (.dK kvs) ∧ SlAt kvs f U ∧ H id = some (.dK kws) ∧ SlAt kws ix U' ∧
  (∀ z, badA f ix a = some z → ∀ d, H d = none → E (.ref CU) (some d) (upd H d (.xd (nameF z)))) ∧ (badA f ix a = none → ∀ v' H', Same H H' → (opA f ix a).At F0 H' v' → Q v' H')
theorem c_operand {f : Addr} {fd : FuncData} (T : TxtO mg) (R : Errs P w K mg base CU CB fU fB fdU fdB) (F : Fun K "_operand" "_operand" sOperand f fd) (b : Binds K fd ["atom", "slots", "indexes"] []) (hm : mg "_operand" = some (.ref f)) : CalX P w K mg base 3 "_operand" (spOperand CU) := by
  refine calX_of F hm b scOperand (fun vs H Q E h => ?_) (fun cdv A outer s H vs Q E hr h => ?_)
  · obtain ⟨B, v, a, sd, id, kvs, kws, f, ix, U, U', rfl, _⟩ := h
    rfl
  obtain ⟨B, v, a, sd, id, kvs, kws, f, ix, U, U', rfl, hat, hatm, hsd, hsl, hid, hix, qe, q⟩ := h
  have hu := hu_of hr
  refine ⟨_, (pss_cons (ps_if (pt_not (pt_val (pe_callB call_isi rfl T.zisinstance boot_isinstance (pa_cons (pv 0) (pa_cons (pe_bltn (v := .ty "str") rfl T.zstr boot_str rfl) pa_nil)))))
      (pss_one (ps_ret (pe_tup (pa_cons pe_str (pa_cons (pv 0) pa_nil)))))
      pss_nil)
    (pss_cons (ps_if (pt_cmp (pc_din hu (pv 0) (pv 1)))
      (pss_one (ps_ret (pe_tup (pa_cons pe_str (pa_cons (pe_dget hu (pv 1) (pv 0) (fun _ _ => rfl)) pa_nil)))))
      pss_nil)
    (pss_cons (ps_if (pt_cmp (pc_dnotin hu (pv 0) (pv 2)))
      (pss_one (ps_raise rfl (takes_of rfl rfl rfl rfl) (pmk_oex R.U.o R.U.i R.U.t R.cU (hr.mono (by decide)) R.bU .nil C8.pass0 rfl R.U.g (pa_cons (pv 0) pa_nil))))
      pss_nil)
    (pss_one (ps_ret (pe_tup (pa_cons pe_str (pa_cons (pe_dget hu (pv 2) (pv 0) (fun _ _ => rfl)) pa_nil)))))))), ?_⟩
  refine ⟨_, rfl, v, .ty "str", _, _, _, rfl, .ty "str", ty_of hat, kit_str a, ?_⟩
  refine ⟨_, rfl, ?_⟩
  match a, hatm with
  | .int n, _ =>
    cases (show v = .int n from hat)
    refine iteT ?_
    refine ⟨_, rfl, by show 2 ≤ sizeLine; decide, fun t ht => ?_⟩
    have s1 := same_new ht (.tup [.str "number", .int n])
    exact q rfl _ _ s1 (at_tup upd_same (ats_cons (at_str' (by decide +kernel)) (ats_cons at_int' ats_nil)))
  | .str z, _ =>
    obtain ⟨rfl, hzl⟩ := (show v = .str z ∧ _ from hat)
    refine iteF ?_
    refine ⟨_, rfl, _, rfl, sd, _, rfl, DGet.k (k := Sum.inr z) hsd, ?_⟩
    rw [hsl.val z]
    refine ⟨_, rfl, ?_⟩
    cases hf : f z with
    | some i =>
      refine iteT ?_
      have hb0 : badA f ix (.str z) = none := by show (if (f z).isSome then none else _) = none; rw [hf]; rfl
      have ho : opA f ix (.str z) = .tup [.str "slot", .int i] := by show (match f z with | some i => _ | none => _) = _; rw [hf]
      have hg := DGet.k (k := Sum.inr z) hsd
      rw [hsl.val z, hf] at hg
      refine ⟨_, rfl, _, rfl, sd, _, rfl, hg, by show 2 ≤ sizeLine; decide, fun t ht => ?_⟩
      have s1 := same_new ht (.tup [.str "slot", .int i])
      refine q hb0 _ _ s1 ?_
      rw [ho]
      exact at_tup upd_same (ats_cons (at_str' (by decide +kernel)) (ats_cons at_int' ats_nil))
    | none =>
      refine iteF ?_
      refine ⟨_, rfl, _, rfl, id, _, rfl, DGet.k (k := Sum.inr z) hid, ?_⟩
      rw [hix.val z]
      refine ⟨_, rfl, ?_⟩
      cases hx : ix z with
      | some i =>
        refine iteF ?_
        have hb0 : badA f ix (.str z) = none := by show (if (f z).isSome then none else if (ix z).isSome then none else some z) = none; rw [hf, hx]; rfl
        have ho : opA f ix (.str z) = .tup [.str "global", .int i] := by show (match f z with | some i => _ | none => Dd.tup [.str "global", .int ((ix z).getD 0)]) = _; rw [hf, hx]; rfl
        have hg := DGet.k (k := Sum.inr z) hid
        rw [hix.val z, hx] at hg
        refine ⟨_, rfl, _, rfl, id, _, rfl, hg, by show 2 ≤ sizeLine; decide, fun t ht => ?_⟩
        have s1 := same_new ht (.tup [.str "global", .int i])
        refine q hb0 _ _ s1 ?_
        rw [ho]
        exact at_tup upd_same (ats_cons (at_str' (by decide +kernel)) (ats_cons at_int' ats_nil))
      | none =>
        refine iteT ?_
        have hb0 : badA f ix (.str z) = some z := by show (if (f z).isSome then none else if (ix z).isSome then none else some z) = some z; rw [hf, hx]; rfl
        exact ⟨_, rfl, (by show 1 ≤ 1000; decide), raise_read R.U hzl fun d hd => qe z hb0 d hd⟩
abbrev sExtended : Stmt := topS 31
theorem scExtended : FnScope ["scope", "names", "slots", "depth", "inner", "index", "name"] ["scope", "names"] (defScope sExtended) := ⟨rfl, rfl, rfl, by decide +kernel, rfl, by decide +kernel, by decide +kernel⟩
def spExt (ct : Bool) : Sp := fun vs H Q _ => ∃ (p D a : Addr) (kvs : List (Key × V)) (σ : Sc) (U ns : List Str), vs = [.ref p, .ref a] ∧ H p = some (.tup [.ref D, .int (σ.d : Int)]) ∧ H D = some (.dK kvs) ∧ SlAt kvs σ.f U ∧ H a = some (if ct then .tup (ns.map V.str) else .lst (ns.map V.str)) ∧ (∀ s ∈ ns, s ∈ U) ∧ U.length ≤ 1000000 ∧
  ∀ (p' D' : Addr) (kvs' : List (Key × V)) (H' : Hp), Same H H' → H p' = none → H D' = none → H' p' = some (.tup [.ref D', .int ((σ.ext ns).d : Int)]) → H' D' = some (.dK kvs') → SlAt kvs' (σ.ext ns).f U → Q (.ref p') H'
theorem c_extT {f : Addr} {fd : FuncData} (T : TxtO mg) (F : Fun K "_extended" "_extended" sExtended f fd) (b : Binds K fd ["scope", "names"] []) (hm : mg "_extended" = some (.ref f)) : C8.Cal P w K mg base 1 "_extended" (spExt true) [] := by
  refine cal_of F hm b scExtended (fun vs H Q E h => ?_) (fun cdv A outer s H vs Q E hr h => ?_)
  · obtain ⟨p, D, a, kvs, σ, U, ns, rfl, _⟩ := h
    rfl
  obtain ⟨p, D, a, kvs, σ, U, ns, rfl, hp, hD, hsl, ha, hU, hUl, q⟩ := h
  have hu := hu_of hr
  have hline := line9
  have ha : H a = some (.tup (ns.map V.str)) := ha
  refine ⟨_, (pss_cons (ps_asg (pv 0) (pg_tup rfl (pgs_cons (pg_name (i := 2) scExtended.nd rfl (Or.inl rfl)) (pgs_cons (pg_name (i := 3) scExtended.nd rfl (Or.inl rfl)) pgs_nil))))
    (pss_cons (ps_set (i := 4) scExtended.nd rfl (Or.inl rfl) (pe_callTy call_dictD rfl T.zdict boot_dict (pa_cons (pv 2) pa_nil)))
    (pss_cons (ps_for PassesOwn.never rfl (pi_enumT rfl T.zenumerate (pa_cons (pv 1) pa_nil)) (pg_tup rfl (pgs_cons (pg_name (i := 5) scExtended.nd rfl (Or.inl rfl)) (pgs_cons (pg_name (i := 6) scExtended.nd rfl (Or.inl rfl)) pgs_nil)))
      (pss_one (ps_dput hu (pv 4) (pv 6) (pe_op op_add (pv 3) (pv 5)) rfl)))
    (pss_one (ps_ret (pe_tup (pa_cons (pv 4) (pa_cons (pe_op op_add (pv 3) (pe_callB call_len_seq rfl T.zlen PySem.boot_len (pa_cons (pv 1) pa_nil))) pa_nil)))))))), ?_⟩
  refine ⟨_, rfl, p, _, rfl, SqT.of hp, rfl, _, _, rfl, _, _, rfl, rfl, ?_⟩
  refine ⟨_, rfl, D, kvs, rfl, .inl hD, fun D' hD' => ?_⟩
  have s1 := same_new hD' (.dK kvs)
  have e1 : upd H D' (.dK kvs) D' = some (.dK kvs) := upd_same
  generalize upd H D' (.dK kvs) = H1 at s1 e1 ⊢
  refine ⟨_, rfl, a, _, rfl, SqT.of (s1 _ _ ha), ?_⟩
  refine for_enumT (a := a) (xs := ns.map V.str)
    (fun i st G => ∃ (v5 v6 : Option V) (kvs' : List (Key × V)), st = [some (.ref p), some (.ref a), some (.ref D), some (.int (σ.d : Int)), some (.ref D'), v5, v6] ∧ Same H G ∧ G D' = some (.dK kvs') ∧ SlAt kvs' (extN σ.f σ.d (ns.take i)) U)
    ⟨_, _, kvs, rfl, s1, e1, by rw [List.take_zero]; exact hsl⟩ (fun i st G ⟨_, _, _, _, h, _⟩ => SqT.of (h _ _ ha)) ?_ ?_
  · rintro i x T' st G hx ⟨v5, v6, kvs', rfl, sG, eG, hs'⟩ hT
    rw [List.getElem?_map] at hx
    obtain ⟨y, hy, rfl⟩ := Option.map_eq_some_iff.mp hx
    have hyU := hU y (List.mem_of_getElem? hy)
    have hil := (List.getElem?_eq_some_iff.mp hy).1
    have hkl := hs'.len
    have sT := same_new hT (.tup [.int (i : Nat), .str y])
    have nT : D' ≠ T' := fun e => by rw [← e, eG] at hT; cases hT
    refine ⟨T', _, rfl, SqT.of upd_same, rfl, _, _, rfl, _, _, rfl, rfl, ?_⟩
    have hD2 : H D' = none := hD'
    refine ⟨_, rfl, _, rfl, _, _, rfl, rfl, _, rfl, _, rfl, D', _, rfl, DPut.k (k := Sum.inr y) (sT _ _ eG) (by omega), ?_⟩
    refine ⟨_, _, _, rfl, same_upd hD2 (sameT sG sT) _, upd_same, ?_⟩
    rw [List.take_add_one, hy]
    show SlAt _ (extN σ.f σ.d (ns.take i ++ [y])) U
    rw [extN_snoc, List.length_take, Nat.min_eq_left (Nat.le_of_lt hil)]
    exact hs'.put _ hyU
  rintro st G ⟨v5, v6, kvs', rfl, sG, eG, hs'⟩
  rw [List.length_map, List.take_length] at hs'
  refine ⟨_, rfl, _, rfl, _, rfl, a, _, rfl, .inr (SqT.of (sG _ _ ha)), _, _, rfl, rfl, by show 2 ≤ sizeLine; decide, fun p' hp' => ?_⟩
  rw [List.length_map]
  have s2 := same_new hp' (.tup [.ref D', .int ((σ.d : Int) + (ns.length : Int))])
  exact q p' D' kvs' _ (sameT sG s2) (free_of sG hp') hD' (by rw [upd_same]; show some (HO.tup [_, V.int ((σ.d : Int) + (ns.length : Int))]) = some (.tup [_, .int ((σ.d + ns.length : Nat) : Int)]); rw [Int.natCast_add]) (s2 _ _ eG) hs'
theorem c_extL {f : Addr} {fd : FuncData} (T : TxtO mg) (F : Fun K "_extended" "_extended" sExtended f fd) (b : Binds K fd ["scope", "names"] []) (hm : mg "_extended" = some (.ref f)) : C8.Cal P w K mg base 1 "_extended" (spExt false) [] := by
  refine cal_of F hm b scExtended (fun vs H Q E h => ?_) (fun cdv A outer s H vs Q E hr h => ?_)
  · obtain ⟨p, D, a, kvs, σ, U, ns, rfl, _⟩ := h
    rfl
  obtain ⟨p, D, a, kvs, σ, U, ns, rfl, hp, hD, hsl, ha, hU, hUl, q⟩ := h
  have hu := hu_of hr
  have hline := line9
  have ha : H a = some (.lst (ns.map V.str)) := ha
  refine ⟨_, (pss_cons (ps_asg (pv 0) (pg_tup rfl (pgs_cons (pg_name (i := 2) scExtended.nd rfl (Or.inl rfl)) (pgs_cons (pg_name (i := 3) scExtended.nd rfl (Or.inl rfl)) pgs_nil))))
    (pss_cons (ps_set (i := 4) scExtended.nd rfl (Or.inl rfl) (pe_callTy call_dictD rfl T.zdict boot_dict (pa_cons (pv 2) pa_nil)))
    (pss_cons (ps_for PassesOwn.never rfl (pi_enum rfl T.zenumerate (pa_cons (pv 1) pa_nil)) (pg_tup rfl (pgs_cons (pg_name (i := 5) scExtended.nd rfl (Or.inl rfl)) (pgs_cons (pg_name (i := 6) scExtended.nd rfl (Or.inl rfl)) pgs_nil)))
      (pss_one (ps_dput hu (pv 4) (pv 6) (pe_op op_add (pv 3) (pv 5)) rfl)))
    (pss_one (ps_ret (pe_tup (pa_cons (pv 4) (pa_cons (pe_op op_add (pv 3) (pe_callB call_len_seq rfl T.zlen PySem.boot_len (pa_cons (pv 1) pa_nil))) pa_nil)))))))), ?_⟩
  refine ⟨_, rfl, p, _, rfl, SqT.of hp, rfl, _, _, rfl, _, _, rfl, rfl, ?_⟩
  refine ⟨_, rfl, D, kvs, rfl, .inl hD, fun D' hD' => ?_⟩
  have s1 := same_new hD' (.dK kvs)
  have e1 : upd H D' (.dK kvs) D' = some (.dK kvs) := upd_same
  generalize upd H D' (.dK kvs) = H1 at s1 e1 ⊢
  refine ⟨_, rfl, a, _, rfl, SqL.of (s1 _ _ ha), ?_⟩
  refine for_enumL (a := a) (xs := ns.map V.str)
    (fun i st G => ∃ (v5 v6 : Option V) (kvs' : List (Key × V)), st = [some (.ref p), some (.ref a), some (.ref D), some (.int (σ.d : Int)), some (.ref D'), v5, v6] ∧ Same H G ∧ G D' = some (.dK kvs') ∧ SlAt kvs' (extN σ.f σ.d (ns.take i)) U)
    ⟨_, _, kvs, rfl, s1, e1, by rw [List.take_zero]; exact hsl⟩ (fun i st G ⟨_, _, _, _, h, _⟩ => SqL.of (h _ _ ha)) ?_ ?_
  · rintro i x T' st G hx ⟨v5, v6, kvs', rfl, sG, eG, hs'⟩ hT
    rw [List.getElem?_map] at hx
    obtain ⟨y, hy, rfl⟩ := Option.map_eq_some_iff.mp hx
    have hyU := hU y (List.mem_of_getElem? hy)
    have hil := (List.getElem?_eq_some_iff.mp hy).1
    have hkl := hs'.len
    have sT := same_new hT (.tup [.int (i : Nat), .str y])
    have nT : D' ≠ T' := fun e => by rw [← e, eG] at hT; cases hT
    refine ⟨T', _, rfl, SqT.of upd_same, rfl, _, _, rfl, _, _, rfl, rfl, ?_⟩
    have hD2 : H D' = none := hD'
    refine ⟨_, rfl, _, rfl, _, _, rfl, rfl, _, rfl, _, rfl, D', _, rfl, DPut.k (k := Sum.inr y) (sT _ _ eG) (by omega), ?_⟩
    refine ⟨_, _, _, rfl, same_upd hD2 (sameT sG sT) _, upd_same, ?_⟩
    rw [List.take_add_one, hy]
    show SlAt _ (extN σ.f σ.d (ns.take i ++ [y])) U
    rw [extN_snoc, List.length_take, Nat.min_eq_left (Nat.le_of_lt hil)]
    exact hs'.put _ hyU
  rintro st G ⟨v5, v6, kvs', rfl, sG, eG, hs'⟩
  rw [List.length_map, List.take_length] at hs'
  refine ⟨_, rfl, _, rfl, _, rfl, a, _, rfl, .inl (SqL.of (sG _ _ ha)), _, _, rfl, rfl, by show 2 ≤ sizeLine; decide, fun p' hp' => ?_⟩
  rw [List.length_map]
  have s2 := same_new hp' (.tup [.ref D', .int ((σ.d : Int) + (ns.length : Int))])
  exact q p' D' kvs' _ (sameT sG s2) (free_of sG hp') hD' (by rw [upd_same]; show some (HO.tup [_, V.int ((σ.d : Int) + (ns.length : Int))]) = some (.tup [_, .int ((σ.d + ns.length : Nat) : Int)]); rw [Int.natCast_add]) (s2 _ _ eG) hs'
abbrev sBeginning : Stmt := topS 30
theorem scBeginning : FnScope ["names"] ["names"] (defScope sBeginning) := ⟨rfl, rfl, rfl, by decide +kernel, rfl, by decide +kernel, by decide +kernel⟩
def spBeg (ct : Bool) : Sp := fun vs H Q _ => ∃ (a : Addr) (U ns : List Str), vs = [.ref a] ∧ H a = some (if ct then .tup (ns.map V.str) else .lst (ns.map V.str)) ∧ (∀ s ∈ ns, s ∈ U) ∧ U.length ≤ 1000000 ∧
  ∀ (p' D' : Addr) (kvs' : List (Key × V)) (H' : Hp), Same H H' → H p' = none → H D' = none → H' p' = some (.tup [.ref D', .int ((Sc.beg ns).d : Int)]) → H' D' = some (.dK kvs') → SlAt kvs' (Sc.beg ns).f U → Q (.ref p') H'
theorem c_begX {ct : Bool} {f : Addr} {fd : FuncData} (c_extended : C8.Cal P w K mg base 1 "_extended" (spExt ct) []) (F : Fun K "_beginning" "_beginning" sBeginning f fd) (b : Binds K fd ["names"] []) (hm : mg "_beginning" = some (.ref f)) : C8.Cal P w K mg base 2 "_beginning" (spBeg ct) [] := by
  refine cal_of F hm b scBeginning (fun vs H Q E h => ?_) (fun cdv A outer s H vs Q E hr h => ?_)
  · obtain ⟨a, U, ns, rfl, _⟩ := h
    rfl
  obtain ⟨a, U, ns, rfl, ha, hU, hUl, q⟩ := h
  refine ⟨_, (pss_one (ps_ret (C8.pe_c c_extended hr (by decide) rfl (pa_cons (pe_tup (pa_cons pe_dnewK (pa_cons pe_int pa_nil))) (pa_cons (pv 0) pa_nil))))), ?_⟩
  intro D hD
  have s1 := same_new hD (.dK [])
  refine ⟨by show 2 ≤ sizeLine; decide, fun p hp => ?_⟩
  have s2 := same_new hp (.tup [.ref D, .int 0])
  have s12 := sameT s1 s2
  refine ⟨_, rfl, p, D, a, [], ⟨noF, 0⟩, U, ns, rfl, upd_same, s2 _ _ upd_same, SlAt.nil, s12 _ _ ha, hU, hUl, fun p' D' kvs' H' s3 h1 h2 h3 h4 h5 => ?_⟩
  exact q p' D' kvs' H' (sameT s12 s3) (free_of s12 h1) (free_of s12 h2) h3 h4 h5
end
end Toy

set_option Elab.async false
set_option linter.all false
set_option maxRecDepth 100000
set_option maxHeartbeats 4000000
/-! Part J6: own rule: sorted of a dict with any number of whole numbers as keys. _operands. -/
namespace L2
open PySem PySem.Spec PyProof.Rows
/-! ### sorted(d), d a dict with any number of whole numbers as keys -/
theorem sorted_dIAny {X : Cx} (hcalm : X.calm = true) : CallR X (.builtin "sorted") (fun xs H Q => ∃ (a : Addr) (kvs : List (Key × V)) (ks : List Int), xs = [.ref a] ∧ Rd H a (.dK kvs) ∧ kvs.map (·.1) = ks.map Sum.inl ∧
    ∀ (ys : List Int) (p : Addr), ys.Perm ks → ys.Pairwise (· ≤ ·) → H p = none → Q (.ref p) (upd H p (.lst (ys.map V.int)))) := by
  intro pins s σ H xs us Q I r q
  obtain ⟨a, kvs, ks, ex, hd, hks, q⟩ := q
  subst ex
  obtain ⟨u, eu, rx⟩ := vals1 r
  subst eu
  cases rx
  obtain ⟨z, lo, vs, rel, dd⟩ := dk_rd I.hok hd
  obtain ⟨ep, dat⟩ := dd.dictAt
  have keys : vs.map (·.1) = ks.map Sum.inl := rel.keys.symm.trans hks
  have len : vs.length = ks.length := by
    have e := congrArg List.length keys
    rwa [List.length_map, List.length_map] at e
  have fits : vs.length ≤ sizeLine := by rw [← rel.length]; exact z
  refine Calls.call_function_entry kind_sorted plain_sorted entry_sorted (args_sorted1 _) ?_
  unfold Builtin.«sorted»
  refine wpAny_bind (m := checkCount "sorted" 1 1 _) (wpAny_pure ?_)
  refine wpAny_bind (PySem.W.kdu_collect (A := X.A.in1) (PySem.W.kdl_dict (knd := mixKind X.prog X.w) (kvs := vs) (ep := ep) lo) (I.ok.hd hcalm) dat fits fun g tk acc kp hacc => ?_)
  have alen : acc.toList.length = ks.length := by rw [Array.length_toList, hacc.1, len]
  have afit : acc.toList.length ≤ sizeLine := by omega
  have aS : IntsAre acc.toList ks := ints_each alen fun j v e => by
    obtain ⟨k, x, e1, e2⟩ := hacc.2 j v (by rw [← Array.getElem?_toList]; exact e)
    have e3 : (vs.map (·.1))[j]? = some k := by rw [List.getElem?_map, e1] <;> rfl
    rw [keys, List.getElem?_map] at e3
    cases e4 : ks[j]? with
    | none => rw [e4] at e3; cases e3
    | some y =>
      rw [e4] at e3
      have e5 : Sum.inl y = k := Option.some.inj e3
      subst e5
      rcases keyIs_shape (show keyIs (Sum.inl y) v = true from e2) with ⟨i, t, ek, ev⟩ | ⟨z, t, ek, ev⟩
      · cases ek
        exact ⟨y, t, rfl, ev⟩
      · cases ek
  have I1 : Inv X pins σ H { s with heap := g, toks := tk } := I.kept kp
  refine wpAny_bind (wpAny_newList ?_ afit)
  have at1 : (g.push (seqObj "list" acc.toList.toArray 0)).get? g.objs.size = some (seqObj "list" acc.toList.toArray 0) := Heap.get?_push_size _ rfl
  show wpAny _ _ _ _ _ { s with heap := g.push (seqObj "list" acc.toList.toArray 0), toks := tk }
  refine wpAny_bind (wpAny_holding (wpAny_call_entry slot_list_sort ⟨_, at1, rfl⟩ entry_list_sort
    (SrtO.list_sort_ord SrtO.swo_int (s := { s with heap := g.push (seqObj "list" acc.toList.toArray 0), toks := tk }) at1 afit (fun h2 => SrtO.ints_sortable aS h2) fun out o1 o2 => ⟨_, rfl, ?_⟩)
    (args_list_sort _)))
  obtain ⟨g1, g2, g3⟩ := SrtO.ints_out aS o1 o2
  obtain ⟨e', he'⟩ := sortedHeap_at (vs := acc.toList) (out := out.toArray) at1
  have ylen : ((out.map SrtO.iv).map V.int).length ≤ sizeLine := by rw [List.length_map, g2.length_eq]; omega
  refine wpAny_pure ⟨_, rfl, .ref g.objs.size, upd H g.objs.size (.lst ((out.map SrtO.iv).map V.int)), I1.laid (t' := tk) (fun b u e => ?_) (Nat.le_refl _)
    (show ObjOk X.prog X.w _ _ _ (.lst ((out.map SrtO.iv).map V.int)) from ⟨ylen, out, e', vals_of_ints g1, he'⟩), rfl, q _ _ g2 g3 (I1.hok.fresh (Nat.le_refl _))⟩
  have hb : b < g.objs.size := Heap.lt_size e
  rw [sortedHeap_old (Nat.ne_of_lt hb) (by rw [size_push']; exact Nat.lt_succ_of_lt hb)]
  exact Heap.get?_push_of_some _ e
end L2
namespace Toy
open PySem L2
open PyProof.Rows (envOfC boot_dict)
/-! ### what a delayed body needs -/
def ndK (f : Str → Option Int) (l : List Str) : List (Key × V) := (l.filter fun s => (f s).isSome).map fun s => (Sum.inl ((f s).getD 0), V.str s)
theorem nd_get {f : Str → Option Int} {d : Nat} (hf : Plain f d) {s : Str} {i : Int} (hs : f s = some i) : ∀ {l : List Str}, s ∈ l → valV (ndK f l) (Sum.inl i) = some (V.str s)
  | x :: l, h => by
    unfold ndK
    by_cases e : x = s
    · subst e
      rw [List.filter_cons_of_pos (by rw [hs]; rfl), List.map_cons, valV_pos (by rw [hs]; rfl)]
    · have h2 : s ∈ l := (List.mem_cons.mp h).elim (fun z => (e z.symm).elim) id
      cases hx : f x with
      | none =>
        rw [List.filter_cons_of_neg (by rw [hx]; exact Bool.false_ne_true)]
        exact nd_get hf hs h2
      | some j =>
        rw [List.filter_cons_of_pos (by rw [hx]; rfl), List.map_cons, valV_neg]
        · exact nd_get hf hs h2
        · intro z
          rw [hx] at z
          have z : j = i := Sum.inl.inj z
          exact e (hf.1 x s i (by rw [hx, z]) hs)
theorem nd_none {f : Str → Option Int} {i : Int} : ∀ {l : List Str}, (∀ s ∈ l, f s ≠ some i) → valV (ndK f l) (Sum.inl i) = none
  | [], _ => rfl
  | x :: l, h => by
    unfold ndK
    cases hx : f x with
    | none =>
      rw [List.filter_cons_of_neg (by rw [hx]; exact Bool.false_ne_true)]
      exact nd_none fun s hs => h s (List.mem_cons_of_mem _ hs)
    | some j =>
      rw [List.filter_cons_of_pos (by rw [hx]; rfl), List.map_cons, valV_neg]
      · exact nd_none fun s hs => h s (List.mem_cons_of_mem _ hs)
      · intro z
        rw [hx] at z
        have z : j = i := Sum.inl.inj z
        exact h x (List.mem_cons_self ..) (by rw [hx, z])
theorem nd_snoc {f : Str → Option Int} {l : List Str} {x : Str} {i : Int} (hx : f x = some i) : ndK f (l ++ [x]) = ndK f l ++ [(Sum.inl i, V.str x)] := by
  unfold ndK
  rw [List.filter_append, List.map_append, List.filter_cons_of_pos (by rw [hx]; rfl), List.filter_nil, List.map_cons, hx]
  rfl
theorem nd_skip {f : Str → Option Int} {l : List Str} {x : Str} (hx : f x = none) : ndK f (l ++ [x]) = ndK f l := by
  unfold ndK
  rw [List.filter_append, List.filter_cons_of_neg (by rw [hx]; exact Bool.false_ne_true), List.filter_nil, List.append_nil]
theorem nd_len (f : Str → Option Int) (l : List Str) : (ndK f l).length ≤ l.length := by
  unfold ndK
  rw [List.length_map]
  exact List.length_filter_le _ _
/-- names for places -/
theorem names_for {f : Str → Option Int} {l : List Str} : ∀ {zs : List Int}, (∀ z ∈ zs, ∃ s ∈ l, f s = some z) → ∃ ns : List Str, ns.map (fun s => (f s).getD 0) = zs ∧ ∀ s ∈ ns, s ∈ l ∧ (f s).isSome = true
  | [], _ => ⟨[], rfl, fun _ h => by cases h⟩
  | z :: zs, h => by
    obtain ⟨s, hs, e⟩ := h z (List.mem_cons_self ..)
    obtain ⟨ns, e2, h2⟩ := names_for fun y hy => h y (List.mem_cons_of_mem _ hy)
    refine ⟨s :: ns, by rw [List.map_cons, e2, e]; rfl, fun t ht => ?_⟩
    rcases List.mem_cons.mp ht with z | z
    · rw [z, e]
      exact ⟨hs, rfl⟩
    · exact h2 t z
theorem strict {zs ks : List Int} (hp : zs.Perm ks) (hn : ks.Nodup) (h : zs.Pairwise (· ≤ ·)) : zs.Pairwise (· < ·) := by
  have hz : zs.Nodup := hp.nodup_iff.mpr hn
  exact List.Pairwise.imp₂ (fun a b (h1 : a ≤ b) (h2 : a ≠ b) => by omega) h hz
theorem slots_nodup {f : Str → Option Int} {d : Nat} (hf : Plain f d) {l : List Str} (hl : l.Nodup) : ((l.filter fun s => (f s).isSome).map fun s => (f s).getD 0).Nodup := by
  refine List.pairwise_map.mpr ?_
  have h1 : (l.filter fun s => (f s).isSome).Nodup := hl.filter _
  refine List.Pairwise.imp_of_mem (fun {a b} ha hb (ne : a ≠ b) => ?_) h1
  have h2 := (List.mem_filter.mp ha).2
  have h3 := (List.mem_filter.mp hb).2
  obtain ⟨i, hi⟩ := Option.isSome_iff_exists.mp h2
  obtain ⟨j, hj⟩ := Option.isSome_iff_exists.mp h3
  rw [hi, hj]
  exact fun (e : i = j) => ne (hf.1 a b i hi (by rw [hj, e]))
theorem SlAt.mem {kvs : List (Key × V)} {f : Str → Option Int} {U : List Str} (h : SlAt kvs f U) {s : Str} (hs : (f s).isSome = true) : s ∈ U := by
  obtain ⟨ks, e, _, m⟩ := h.keys
  have h1 : (kvs.any fun kv => decide (kv.1 = (Sum.inr s : Key))) = true := by
    rw [valV_any, h.val s, Option.isSome_map]
    exact hs
  obtain ⟨kv, hk, hd⟩ := List.any_eq_true.mp h1
  have h2 : (Sum.inr s : Key) ∈ kvs.map (·.1) := List.mem_map.mpr ⟨kv, hk, of_decide_eq_true hd⟩
  rw [e] at h2
  obtain ⟨t, ht, e2⟩ := List.mem_map.mp h2
  cases e2
  exact m s ht
theorem badL_snoc {f ix : Str → Option Int} {l : List Dd} {a : Dd} (h : badL f ix l = none) : badL f ix (l ++ [a]) = badA f ix a := by
  unfold badL at h ⊢
  rw [List.findSome?_append, h]
  show (List.findSome? _ [a]) = _
  simp only [List.findSome?_cons, List.findSome?_nil]
  cases badA f ix a <;> rfl
theorem badL_pre {f ix : Str → Option Int} {l m : List Dd} {z : Str} (h : badL f ix l = some z) : badL f ix (l ++ m) = some z := by
  unfold badL at h ⊢
  rw [List.findSome?_append, h]
  rfl
structure TxtQ (mg : Str → Option Value) : Prop where
  zsorted : mg "sorted" = none
section
variable {P : Program} {w : World} {K : PySem.W.Frag} {mg : Str → Option Value} {base : Heap} {CU CB fU fB : Addr} {fdU fdB : FuncData}
abbrev sOperands : Stmt := topS 32
theorem scOperands : FnScope ["thing", "scope", "indexes", "slots", "_", "needed", "order", "function", "name", "slot", "atom"] ["thing", "scope", "indexes"] (defScope sOperands) := ⟨rfl, rfl, rfl, by decide +kernel, rfl, by decide +kernel, by decide +kernel⟩
/-- how a scope stands in the heap: its pair, its dict -/
def ScAt (H : Hp) (p D : Addr) (σ : Sc) (U : List Str) : Prop := ∃ kvs, H p = some (.tup [.ref D, .int (σ.d : Int)]) ∧ H D = some (.dK kvs) ∧ SlAt kvs σ.f U
def spOperands (CU : Addr) : Sp := fun vs H Q E => ∃ (B : Addr → Prop) (v : V) (w : Str) (r : List Dd) (p D id : Addr) (kws : List (Key × V)) (σ : Sc) (ix : Str → Option Int) (U U' : List Str), vs = [v, .ref p, .ref id] ∧ (Dd.tup (.str w :: r)).At B H v ∧ gl U (.tup (.str w :: r)) ∧ (Dd.tup (.str w :: r)).sz ≤ 100000 ∧
  ScAt H p D σ U ∧ σ.Ok ∧ U.length ≤ 1000000 ∧ H id = some (.dK kws) ∧ SlAt kws ix U' ∧
  (∀ z, opsBad σ.f ix w r = some z → ∀ H' d, Same H H' → H' d = none → E (.ref CU) (some d) (upd H' d (.xd (nameF z)))) ∧
  (opsBad σ.f ix w r = none → ∀ (ops : List Dd) (σ' : Sc) (t L p' D' : Addr) (os : List V) (H' : Hp), OpsR ix (.tup (.str w :: r)) σ ops σ' → ops.length ≤ 1000000 → Same H H' → H t = none → H L = none → (D' = D ∨ H D' = none) → H' t = some (.tup [.ref L, .ref p']) → H' L = some (.lst os) → Dd.Ats F0 H' ops os → ScAt H' p' D' σ' U → Q (.ref t) H')
theorem c_operands {f : Addr} {fd : FuncData} (T : TxtQ mg) (c_operand : CalX P w K mg base 3 "_operand" (spOperand CU)) (catoms_of : C8.Cal P w K mg base 1 "atoms_of" spAtoms []) (cfree_atoms : C8.Cal P w K mg base 6 "free_atoms" spFree []) (c_beginning : C8.Cal P w K mg base 2 "_beginning" (spBeg false) []) (F : Fun K "_operands" "_operands" sOperands f fd) (b : Binds K fd ["thing", "scope", "indexes"] []) (hm : mg "_operands" = some (.ref f)) : CalX P w K mg base 7 "_operands" (spOperands CU) := by
  refine calX_of F hm b scOperands (fun vs H Q E h => ?_) (fun cdv A outer s H vs Q E hr h => ?_)
  · obtain ⟨B, v, w, r, p, D, id, kws, σ, ix, U, U', rfl, _⟩ := h
    rfl
  obtain ⟨B, v, z, r, p, D, id, kws, σ, ix, U, U', rfl, hat, hgl, hsz, ⟨kvs, hp, hD, hsl⟩, hok, hUl, hid, hix, qe, q⟩ := h
  have hu := hu_of hr
  have hbig := big
  have hline := line9
  refine ⟨_, (pss_cons (ps_asg (pv 1) (pg_tup rfl (pgs_cons (pg_name (i := 3) scOperands.nd rfl (Or.inr rfl)) (pgs_cons (pg_name (i := 4) scOperands.nd rfl (Or.inl rfl)) pgs_nil))))
    (pss_cons (ps_if (pt_cmpR op_eq (pe_ix ix_tup (pv 0) pe_int (fun _ _ => rfl)) pe_str (nomark _))
      (pss_cons (ps_set (i := 5) scOperands.nd rfl (Or.inr rfl) (pe_dc (own := [("name", 8)]) (g := gName 8) (tt := (tB (tDIn (tVar 8) (tVar 3)))) rfl scOperands.nd (pi_list (C8.pe_c cfree_atoms hr (by decide) rfl (pa_cons (pv 0) pa_nil))) (blkOk_by (own := [("name", 8)]) (N := ["thing", "scope", "indexes", "slots", "_", "needed", "order", "function", "name", "slot", "atom"]) (sc := defScope sOperands) (by decide +kernel)) (fun _ _ _ _ _ => (pg_name (i := 8) scOperands.nd rfl (Or.inl rfl))) (fun _ _ _ _ _ => pts_one (pt_cmp (pc_din hu (pv 8) (pv 3)))) (fun _ _ _ _ _ => (pe_dget hu (pv 3) (pv 8) (fun _ _ => rfl))) (fun _ _ _ _ _ => (pv 8))))
    (pss_cons (ps_set (i := 6) scOperands.nd rfl (Or.inl rfl) (pe_callB (sorted_dIAny rfl) rfl T.zsorted PyProof.Rows.boot_sorted (pa_cons (pv 5) pa_nil)))
    (pss_one (ps_ret (pe_tup (pa_cons (pe_lc (own := [("slot", 9)]) (g := gName 9) (tt := tYes) rfl scOperands.nd (pi_list (pv 6)) (blkOk_by (own := [("slot", 9)]) (N := ["thing", "scope", "indexes", "slots", "_", "needed", "order", "function", "name", "slot", "atom"]) (sc := defScope sOperands) (by decide +kernel)) (fun _ _ _ _ _ => (pg_name (i := 9) scOperands.nd rfl (Or.inl rfl))) (fun _ _ _ _ _ => pts_nil) (fun _ _ _ _ _ => (pe_tup (pa_cons pe_str (pa_cons (pv 9) pa_nil))))) (pa_cons (C8.pe_c c_beginning hr (by decide) rfl (pa_cons (pe_lc (own := [("slot", 9)]) (g := gName 9) (tt := tYes) rfl scOperands.nd (pi_list (pv 6)) (blkOk_by (own := [("slot", 9)]) (N := ["thing", "scope", "indexes", "slots", "_", "needed", "order", "function", "name", "slot", "atom"]) (sc := defScope sOperands) (by decide +kernel)) (fun _ _ _ _ _ => (pg_name (i := 9) scOperands.nd rfl (Or.inl rfl))) (fun _ _ _ _ _ => pts_nil) (fun _ _ _ _ _ => (pe_dget hu (pv 5) (pv 9) (fun _ _ => rfl)))) pa_nil)) pa_nil)))))))
      pss_nil)
    (C8.pss_cut (ps_set (i := 7) scOperands.nd rfl (Or.inl rfl) (pe_ifExp (pt_cmpR op_eq (pe_ix ix_tup (pv 0) pe_int (fun _ _ => rfl)) pe_str (nomark _)) (pe_lst (pa_cons (pe_cx c_operand hr (by decide) rfl (takes_of rfl rfl rfl rfl) (pa_cons (pe_ix ix_tup (pv 0) pe_int (fun _ _ => rfl)) (pa_cons pe_dnewK (pa_cons (pv 2) pa_nil)))) pa_nil)) (pe_lst pa_nil)))
    (pss_one (ps_ret (pe_tup (pa_cons (pe_op op_cat (pv 7) (pe_lcX (E := E) (takes_of rfl rfl rfl rfl) rfl rfl (own := [("atom", 10)]) (g := gName 10) (tt := tYes) rfl scOperands.nd (pi_tup (C8.pe_c catoms_of hr (by decide) rfl (pa_cons (pv 0) pa_nil))) (blkOk_by (own := [("atom", 10)]) (N := ["thing", "scope", "indexes", "slots", "_", "needed", "order", "function", "name", "slot", "atom"]) (sc := defScope sOperands) (by decide +kernel)) (fun _ _ _ _ _ => (pg_name (i := 10) scOperands.nd rfl (Or.inl rfl))) (fun _ _ _ _ _ => pts_nil) (fun _ _ _ _ _ => (pe_cxB c_operand hr (by decide) rfl (pa_cons (pv 10) (pa_cons (pv 3) (pa_cons (pv 2) pa_nil))))))) (pa_cons (pv 1) pa_nil)))))))), ?_⟩
  have hat0 := hat
  obtain ⟨a, ys, rfl, ha, hys, hyl, hzl⟩ := head_at hat
  refine ⟨_, rfl, p, _, rfl, SqT.of hp, rfl, _, _, rfl, _, _, rfl, rfl, ?_⟩
  refine ⟨_, rfl, a, _, 0, _, rfl, rfl, SqT.of ha, at0 _ _, rfl, _, rfl, ?_⟩
  by_cases c1 : z = "later"
  · subst c1
    show if decide (V.str "later" = V.str "later") = true then _ else _
    rw [wtt]
    refine iteT ?_
    have hb0 : opsBad σ.f ix "later" r = none := by unfold opsBad; rw [if_pos rfl]
    refine ⟨_, rfl, B, .ref a, _, U, rfl, hat0, hgl, hUl, by omega, fun L ys H1 s1 hL eL nod mem len => ⟨L, rfl, ⟨_, SqL.of eL⟩, fun Dn hDn => ?_⟩⟩
    have hp1 := s1 _ _ hp
    have hD1 := s1 _ _ hD
    refine dc_list (a := L) (xs := ys.map V.str) (fun i G => Same H1 G ∧ G Dn = some (.dK (ndK σ.f (ys.take i)))) ⟨same_new hDn _, upd_same⟩ (fun i G _ ⟨h, _⟩ => SqL.of (h _ _ eL)) ?_ ?_
    · rintro i x G hx ⟨sG, eG⟩
      rw [List.getElem?_map] at hx
      obtain ⟨y, hy, rfl⟩ := Option.map_eq_some_iff.mp hx
      have hil := (List.getElem?_eq_some_iff.mp hy).1
      have hDG := sG _ _ hD1
      have e1 : ys.take (i + 1) = ys.take i ++ [y] := by rw [List.take_add_one, hy]; rfl
      refine ⟨rfl, ?_⟩
      refine ⟨_, rfl, _, rfl, D, _, rfl, DGet.k (k := Sum.inr y) hDG, ?_⟩
      rw [hsl.val y]
      refine ⟨_, rfl, ?_⟩
      cases hf : σ.f y with
      | none =>
        refine iteF ?_
        refine ⟨sG, ?_⟩
        rw [e1, nd_skip hf]
        exact eG
      | some j =>
        refine iteT ?_
        have hg := DGet.k (k := Sum.inr y) hDG
        rw [hsl.val y, hf] at hg
        have hkl := nd_len σ.f (ys.take i)
        rw [List.length_take] at hkl
        refine ⟨_, rfl, _, rfl, D, _, rfl, hg, _, rfl, _, Sum.inl j, rfl, eG, by omega, same_upd hDn sG _, ?_⟩
        rw [upd_same, e1, nd_snoc hf, putK_new]
        refine nd_none fun s hs e => ?_
        have e3 : s = y := hok.1 s y j e hf
        rw [e3] at hs
        rw [← List.take_append_drop i ys] at nod
        have n2 := (List.nodup_append.mp nod).2.2 y hs y
        refine n2 ?_ rfl
        rw [List.drop_eq_getElem_cons hil]
        rw [List.getElem?_eq_getElem hil] at hy
        rw [Option.some.inj hy]
        exact List.mem_cons_self ..
    rintro G1 ⟨sG1, eG1⟩
    rw [List.length_map, List.take_length] at eG1
    show gName 5 (V.ref Dn) _ _ _
    have s01 := sameT s1 sG1
    refine ⟨_, rfl, Dn, _, (ys.filter fun s => (σ.f s).isSome).map (fun s => (σ.f s).getD 0), rfl, .inl eG1, ?_, fun zs po hperm hpw hpo => ?_⟩
    · unfold ndK
      rw [List.map_map, List.map_map]
      rfl
    have hzl : zs.length ≤ ys.length := by
      rw [hperm.length_eq, List.length_map]
      exact List.length_filter_le _ _
    have hst := strict hperm (slots_nodup hok nod) hpw
    obtain ⟨ns, hns, hmem⟩ := names_for (f := σ.f) (l := ys) (zs := zs) fun z hz => by
      obtain ⟨s, hs, e⟩ := List.mem_map.mp ((hperm.mem_iff).mp hz)
      obtain ⟨h1, h2⟩ := List.mem_filter.mp hs
      obtain ⟨j, hj⟩ := Option.isSome_iff_exists.mp h2
      rw [hj] at e
      have e : j = z := e
      exact ⟨s, h1, by rw [hj, e]⟩
    have hneed : Need σ.f (.tup (.str "later" :: r)) ns := by
      refine ⟨fun s => ⟨fun h => ⟨(mem s).mp (hmem s h).1, (hmem s h).2⟩, fun ⟨h1, h2⟩ => ?_⟩, List.pairwise_map.mp (by rw [hns]; exact hst)⟩
      have h3 : (σ.f s).getD 0 ∈ zs := (hperm.mem_iff).mpr (List.mem_map.mpr ⟨s, List.mem_filter.mpr ⟨(mem s).mpr h1, h2⟩, rfl⟩)
      rw [← hns] at h3
      obtain ⟨t, ht, e⟩ := List.mem_map.mp h3
      obtain ⟨i, hi⟩ := Option.isSome_iff_exists.mp h2
      obtain ⟨j, hj⟩ := Option.isSome_iff_exists.mp (hmem t ht).2
      rw [hi, hj] at e
      have e : j = i := e
      rw [hok.1 s t i hi (by rw [hj, e])]
      exact ht
    have hnl : ns.length = zs.length := by rw [← hns, List.length_map]
    have hnU : ∀ s ∈ ns, s ∈ U := fun s h => hsl.mem (hmem s h).2
    have s2 := same_new hpo (.lst (zs.map V.int))
    have eo : upd G1 po (.lst (zs.map V.int)) po = some (.lst (zs.map V.int)) := upd_same
    have eG2 := s2 _ _ eG1
    generalize upd G1 po (.lst (zs.map V.int)) = G2 at s2 eo eG2 ⊢
    have s02 := sameT s01 s2
    refine ⟨_, rfl, po, rfl, ⟨_, SqL.of eo⟩, fun L2 hL2 => ?_⟩
    refine lc_list (a := po) (xs := zs.map V.int) (fun i G => Same G2 G ∧ ∃ acc, G L2 = some (.lst acc) ∧ Dd.Ats F0 G ((zs.take i).map slotD) acc) ⟨same_new hL2 _, [], upd_same, rfl⟩ (fun i G _ ⟨h, _⟩ => SqL.of (h _ _ eo)) ?_ ?_
    · rintro i x G hx ⟨sG, acc, eA, hA⟩
      rw [List.getElem?_map] at hx
      obtain ⟨y, hy, rfl⟩ := Option.map_eq_some_iff.mp hx
      have hil := (List.getElem?_eq_some_iff.mp hy).1
      have hal := ats_len hA
      rw [List.length_map, List.length_take] at hal
      refine ⟨rfl, ?_⟩
      refine tYes_if ?_
      refine ⟨_, rfl, by show 2 ≤ sizeLine; decide, fun t ht => ?_⟩
      have sT := same_new ht (.tup [.str "slot", .int y])
      have ft := fr_list (B := F0) (sT _ _ eA) (fun z => z) (o := HO.lst (acc ++ [V.ref t]))
      refine ⟨acc, sT _ _ eA, by omega, same_upd hL2 (sameT sG sT) _, _, upd_same, ?_⟩
      rw [List.take_add_one, hy, List.map_append]
      exact ats_app ((hA.keep (fr_same sT)).keep ft) (ats_one ((at_tup upd_same (ats_cons (at_str' (by decide +kernel)) (ats_cons at_int' ats_nil)) : (slotD y).At F0 _ (.ref t)).keep ft))
    rintro G3 ⟨s3, os, eO, hO⟩
    rw [List.length_map, List.take_length] at hO
    have s03 := sameT s02 s3
    have eN3 := s3 _ _ eG2
    have eo3 := s3 _ _ eo
    refine ⟨_, rfl, po, rfl, ⟨_, SqL.of eo3⟩, fun L3 hL3 => ?_⟩
    refine lc_list (a := po) (xs := zs.map V.int) (fun i G => Same G3 G ∧ G L3 = some (.lst ((ns.take i).map V.str))) ⟨same_new hL3 _, by rw [List.take_zero]; exact upd_same⟩ (fun i G _ ⟨h, _⟩ => SqL.of (h _ _ eo3)) ?_ ?_
    · rintro i x G hx ⟨sG, eA⟩
      rw [List.getElem?_map] at hx
      obtain ⟨y, hy, rfl⟩ := Option.map_eq_some_iff.mp hx
      have hil := (List.getElem?_eq_some_iff.mp hy).1
      rw [← hns, List.getElem?_map] at hy
      obtain ⟨n, hn, e⟩ := Option.map_eq_some_iff.mp hy
      have hnm := hmem n (List.mem_of_getElem? hn)
      obtain ⟨j, hj⟩ := Option.isSome_iff_exists.mp hnm.2
      rw [hj] at e
      have e : j = y := e
      have hg := DGet.k (k := Sum.inl y) (sG _ _ eN3)
      rw [nd_get hok (by rw [hj, e]) hnm.1] at hg
      refine ⟨rfl, ?_⟩
      refine tYes_if ?_
      refine ⟨_, rfl, _, rfl, Dn, _, rfl, hg, ?_⟩
      refine ⟨_, eA, by rw [List.length_map, List.length_take]; omega, same_upd hL3 sG _, ?_⟩
      rw [upd_same, List.take_add_one, hn, List.map_append]
      rfl
    rintro G4 ⟨s4, e4⟩
    rw [List.length_map, ← hnl, List.take_length] at e4
    have s04 := sameT s03 s4
    refine ⟨L3, U, ns, rfl, e4, hnU, hUl, fun p' D' kvs' G5 s5 h1 h2 h3 h4 h5 => ?_⟩
    refine ⟨by show 2 ≤ sizeLine; decide, fun t ht => ?_⟩
    have s6 := same_new ht (.tup [.ref L2, .ref p'])
    have s05 := sameT s04 s5
    have s46 := sameT s4 (sameT s5 s6)
    refine q hb0 _ _ t L2 p' D' os _ (.later hneed) (by rw [List.length_map]; omega) (sameT s05 s6) (free_of s05 ht) (free_of s02 hL2) (.inr (free_of s04 h2)) upd_same (s46 _ _ eO) ?_ ⟨kvs', s6 _ _ h3, s6 _ _ h4, h5⟩
    have eM : (ns.map fun s => slotD ((σ.f s).getD 0)) = zs.map slotD := by rw [← hns, List.map_map]; rfl
    rw [eM]
    exact hO.keep (fr_same s46)
  show if decide (V.str z = V.str "later") = true then _ else _
  rw [wne c1]
  refine iteF ?_
  obtain ⟨z', r', ee, hao, hio, hatm, hmk, _⟩ := gl_parts hgl
  have ee := Dd.tup.inj ee
  obtain ⟨ee1, ee2⟩ := List.cons.inj ee
  cases Dd.str.inj ee1
  cases ee2
  have hal := atoms_len (w := z) (r := r)
  refine ⟨fun st G => ∃ (pre : List Dd) (L0 : Addr) (os0 : List V), st = [some (.ref a), some (.ref p), some (.ref id), some (.ref D), some (.int (σ.d : Int)), none, none, some (.ref L0), none, none, none] ∧ Same H G ∧ H L0 = none ∧ G L0 = some (.lst os0) ∧ Dd.Ats F0 G pre os0 ∧ pre.length ≤ 1 ∧
    opsD σ.f ix z r = pre ++ (atomsW z r).map (opA σ.f ix) ∧ (∀ o, badL σ.f ix (atomsW z r) = some o → opsBad σ.f ix z r = some o) ∧ (badL σ.f ix (atomsW z r) = none → opsBad σ.f ix z r = none), ?_, ?_⟩
  · refine ⟨_, rfl, a, _, 0, _, rfl, rfl, SqT.of ha, at0 _ _, rfl, _, rfl, ?_⟩
    by_cases c2 : z = "part"
    · subst c2
      show if decide (V.str "part" = V.str "part") = true then _ else _
      rw [wtt]
      refine iteT ?_
      obtain ⟨h2, _⟩ := hao.2.1 (.inr (.inr rfl))
      obtain ⟨x, hx, hxa⟩ := arg_at (v0 := .str "part") hys (i := 0) (by omega)
      have hstr := hmk.2.2 rfl
      have hatm0 : isAtm (arg 0 r) = true := by
        cases e : arg 0 r with
        | str n => rfl
        | int i => rfl
        | bl b => rw [e] at hstr; cases hstr
        | non => rw [e] at hstr; cases hstr
        | tup l => rw [e] at hstr; cases hstr
        | lst l => rw [e] at hstr; cases hstr
      refine ⟨_, rfl, a, _, 1, _, rfl, rfl, SqT.of ha, hx, fun De hDe => ?_⟩
      have s1 := same_new hDe (.dK [])
      refine ⟨_, rfl, B, x, arg 0 r, De, id, [], kws, noF, ix, [], U', rfl, hxa.keep (fr_same s1), hatm0, upd_same, SlAt.nil, s1 _ _ hid, hix, fun o ho d hd => ?_, fun ho v' H2 s2 hv' => ?_⟩
      · refine qe o ?_ _ d s1 hd
        unfold opsBad
        rw [if_neg (by decide +kernel), if_pos rfl, ho]
        rfl
      refine ⟨by show 1 ≤ sizeLine; decide, fun L0 hL0 => ?_⟩
      have s3 := same_new hL0 (.lst [v'])
      have s12 := sameT s1 s2
      refine ⟨[opA noF ix (arg 0 r)], L0, [v'], rfl, sameT s12 s3, free_of s12 hL0, upd_same, ats_one (hv'.keep (fr_same s3)), Nat.le_refl _, ?_, fun o h => ?_, fun h => ?_⟩
      · unfold opsD
        rw [if_pos rfl]
      · unfold opsBad
        rw [if_neg (by decide +kernel), if_pos rfl, ho, h]
        rfl
      · unfold opsBad
        rw [if_neg (by decide +kernel), if_pos rfl, ho, h]
        rfl
    show if decide (V.str z = V.str "part") = true then _ else _
    rw [wne c2]
    refine iteF ?_
    refine ⟨by show 0 ≤ sizeLine; decide, fun L0 hL0 => ?_⟩
    have s3 := same_new hL0 (.lst [])
    refine ⟨[], L0, [], rfl, s3, hL0, upd_same, rfl, Nat.zero_le _, ?_, fun o h => ?_, fun h => ?_⟩
    · unfold opsD
      rw [if_neg c2]
    · unfold opsBad
      rw [if_neg c1, if_neg c2, h]
    · unfold opsBad
      rw [if_neg c1, if_neg c2, h]
  rintro st G ⟨pre, L0, os0, rfl, sG, hL0, eL0, hA0, hpl, eops, hbs, hbn⟩
  have hos := ats_len hA0
  refine ⟨_, rfl, _, rfl, B, .ref a, z, r, rfl, hat0.keep (fr_same sG), hao, by omega, fun ua ax G1 s1 eu hax => ⟨ua, rfl, ⟨_, SqT.of eu⟩, fun L1 hL1 => ?_⟩⟩
  have hxl := ats_len hax
  have sG1 := sameT sG s1
  refine lc_tup (a := ua) (xs := ax) (fun i G' => Same G1 G' ∧ badL σ.f ix ((atomsW z r).take i) = none ∧ ∃ acc, G' L1 = some (.lst acc) ∧ Dd.Ats F0 G' (((atomsW z r).take i).map (opA σ.f ix)) acc) ⟨same_new hL1 _, rfl, [], upd_same, rfl⟩ (fun i G' _ ⟨h, _⟩ => SqT.of (h _ _ eu)) ?_ ?_
  · rintro i x G' hx ⟨sG', hbi, acc, eA, hA⟩
    obtain ⟨kk, hk, hkat⟩ := ats_get hax hx
    have hkm : kk ∈ atomsW z r := List.mem_of_getElem? hk
    have hil := (List.getElem?_eq_some_iff.mp hk).1
    have hal2 := ats_len hA
    rw [List.length_map, List.length_take] at hal2
    have e1 : (atomsW z r).take (i + 1) = (atomsW z r).take i ++ [kk] := by rw [List.take_add_one, hk]; rfl
    have sHG := sameT sG1 sG'
    refine ⟨rfl, ?_⟩
    refine tYes_if ?_
    refine ⟨_, rfl, _, rfl, _, rfl, B, x, kk, D, id, kvs, kws, σ.f, ix, U, U', rfl, hkat.keep (fr_same sG'), hatm kk hkm, sHG _ _ hD, hsl, sHG _ _ hid, hix, fun o ho d hd => ?_, fun ho v' G2 s2 hv' => ?_⟩
    · refine qe o (hbs o ?_) _ d sHG hd
      rw [← List.take_append_drop (i + 1) (atomsW z r), e1]
      exact badL_pre ((badL_snoc hbi).trans ho)
    · have f2 := fr_list (B := F0) (s2 _ _ eA) (fun z => z) (o := HO.lst (acc ++ [v']))
      refine ⟨acc, s2 _ _ eA, by omega, same_upd hL1 (sameT sG' s2) _, by rw [e1]; exact (badL_snoc hbi).trans ho, _, upd_same, ?_⟩
      rw [e1, List.map_append]
      exact ats_app ((hA.keep (fr_same s2)).keep f2) (ats_one (hv'.keep f2))
  rintro G2 ⟨s2, hbi, acc, eA, hA⟩
  rw [hxl, List.take_length] at hbi hA
  have hal2 := ats_len hA
  rw [List.length_map] at hal2
  have s12 := sameT s1 s2
  refine ⟨L0, L1, os0, acc, rfl, rfl, s12 _ _ eL0, eA, by omega, fun L2 hL2 => ?_⟩
  refine ⟨_, rfl, by show 2 ≤ sizeLine; decide, fun t ht => ?_⟩
  have s3 := same_new hL2 (.lst (os0 ++ acc))
  have s4 := same_new ht (.tup [.ref L2, .ref p])
  have s34 := sameT s3 s4
  have sA := sameT sG (sameT s12 s34)
  refine q (hbn hbi) _ _ t L2 p D _ _ (.other c1) (by rw [eops, List.length_append, List.length_map]; omega) sA (free_of (sameT sG (sameT s12 s3)) ht) (free_of (sameT sG s12) hL2) (.inl rfl) upd_same (s4 _ _ upd_same) ?_ ⟨kvs, sA _ _ hp, sA _ _ hD, hsl⟩
  rw [eops]
  exact ats_app (hA0.keep (fr_same (sameT s12 s34))) (hA.keep (fr_same s34))
end
end Toy

set_option Elab.async false
set_option linter.all false
set_option maxRecDepth 100000
set_option maxHeartbeats 4000000
/-! Part K6: the makers of code. -/
namespace Toy
open PySem L2
open PyProof.Rows (envOfC)
def dfN : Dd → Nat
  | .non => 0
  | _ => 1
/-- what a maker asks -/
def MkReq (z : Str) (r ops is : List Dd) : Prop :=
  (z = "atom" ∨ z = "call" → 1 ≤ ops.length) ∧ (z = "con" → 1 ≤ r.length) ∧ (z = "prim" → 1 ≤ r.length ∧ 2 ≤ ops.length) ∧ (z = "let" → 1 ≤ is.length) ∧ (z = "seq" → 2 ≤ is.length) ∧
  (z = "case" → ∃ (x d : Dd) (rows : List Dd), r = [x, .tup rows, d] ∧ (∀ q ∈ rows, ∃ (t b : Dd) (ns : List Dd), q = .tup [t, .tup ns, b]) ∧ is.length = 1 + rows.length + dfN d) ∧
  (z = "pick" → ∃ (x d : Dd) (rows : List Dd), r = [x, .tup rows, d] ∧ (∀ q ∈ rows, ∃ t b : Dd, q = .tup [t, b]) ∧ is.length = 1 + rows.length + dfN d) ∧
  (z = "note" → 1 ≤ r.length ∧ 1 ≤ is.length) ∧ (z = "later" → 1 ≤ is.length) ∧ (z = "part" → ∃ (a i : Dd) (rest : List Dd), ops = .tup [a, i] :: rest)
theorem at_nth {H : Hp} {l : List Dd} {xs : List V} (h : Dd.Ats F0 H l xs) {i : Nat} (hi : i < l.length) : ∃ x, atI xs ((i : Nat) : Int) = some x ∧ (nth i (.tup l)).At F0 H x := by
  obtain ⟨x, hx, hxa⟩ := ats_getI h (List.getElem?_eq_getElem hi)
  refine ⟨x, atI_nat hx, ?_⟩
  show (l.getD i .non).At F0 H x
  rw [List.getD_eq_getElem?_getD, List.getElem?_eq_getElem hi]
  exact hxa
theorem at_last {H : Hp} {l : List Dd} {xs : List V} (h : Dd.Ats F0 H l xs) (hl : 1 ≤ l.length) : ∃ x, atI xs (-1) = some x ∧ (lastP l).At F0 H x := last_at h hl
theorem sIx_m1 (n : Nat) : HT.sIx n n (some (-1)) = n - 1 := by
  cases n with
  | zero => rfl
  | succ n =>
    unfold HT.sIx
    simp
    omega
theorem cut_last (xs : List V) : cutV xs none (some (-1)) = xs.dropLast := by
  unfold cutV
  rw [HT.sIx_none, List.drop_zero, Nat.sub_zero, sIx_m1, List.dropLast_eq_take]
theorem ats_dropLast {B : Addr → Prop} {H : Hp} : ∀ {l : List Dd} {xs : List V}, Dd.Ats B H l xs → Dd.Ats B H l.dropLast xs.dropLast
  | [], _, h => by cases h; exact rfl
  | [k], _, ⟨x, ys, e, h, hs⟩ => by
    cases e
    cases (show ys = [] from hs)
    exact rfl
  | k :: k2 :: l, _, ⟨x, ys, e, h, hs⟩ => by
    cases e
    have z := ats_dropLast hs
    obtain ⟨y, ys2, rfl, _, _⟩ := hs
    exact ⟨x, _, rfl, h, z⟩
theorem at_con {H : Hp} {z : Str} {l : List Dd} {t : Addr} {xs : List V} (h : H t = some (.tup (.str z :: xs))) (hz : z.length ≤ 1000) (hs : Dd.Ats F0 H l xs) : (Dd.tup (.str z :: l)).At F0 H (.ref t) := at_tup h (ats_cons (at_str' hz) hs)
theorem W0t : True := trivial
theorem pw {z : Str} (r ops is : List Dd) : True := trivial
structure TxtMk (mg : Str → Option Value) : Prop where
  zzip : mg "zip" = none
  zlen : mg "len" = none
  ztuple : mg "tuple" = none
section
variable {P : Program} {w : World} {K : PySem.W.Frag} {mg : Str → Option Value} {base : Heap}
def spMk (z : Str) : Sp := fun vs H Q _ => ∃ (v : V) (r ops is : List Dd) (ot il : Addr) (os cs : List V), vs = [v, .ref ot, .ref il] ∧ (Dd.tup (.str z :: r)).At F0 H v ∧ (Dd.tup (.str z :: r)).sz ≤ 1000000 ∧ H ot = some (.tup os) ∧ H il = some (.lst cs) ∧ Dd.Ats F0 H ops os ∧ Dd.Ats F0 H is cs ∧ ops.length ≤ 1000000 ∧ is.length ≤ 1000000 ∧ MkReq z r ops is ∧
  ∀ (v' : V) (H' : Hp), Same H H' → (putW z r ops is).At F0 H' v' → Q v' H'
abbrev sMGive : Stmt := topS 35
theorem scMGive : FnScope ["thing", "operands", "inner"] ["thing", "operands", "inner"] (defScope sMGive) := ⟨rfl, rfl, rfl, by decide +kernel, rfl, by decide +kernel, by decide +kernel⟩
theorem c_mk_give {f : Addr} {fd : FuncData} (T : TxtMk mg) (F : Fun K "_make_give" "_make_give" sMGive f fd) (b : Binds K fd ["thing", "operands", "inner"] []) (hm : mg "_make_give" = some (.ref f)) : C8.Cal P w K mg base 1 "_make_give" (spMk "atom") [] := by
  refine cal_of F hm b scMGive (fun vs H Q E h => ?_) (fun cdv A outer s H vs Q E hr h => ?_)
  · obtain ⟨v, r, ops, is, ot, il, os, cs, rfl, _⟩ := h
    rfl
  obtain ⟨v, r, ops, is, ot, il, os, cs, rfl, hat, hsz, hot, hil, hos, hcs, hol, hcl, hreq, q⟩ := h
  obtain ⟨q1, q2, q3, q4, q5, q6, q7, q8, q9, q10⟩ := hreq
  have hu := hu_of hr
  have hbig := big
  have hlo := ats_len hos
  have hlc := ats_len hcs
  obtain ⟨a, ys, rfl, ha, hys, hyl, hzl⟩ := head_at hat
  refine ⟨_, (pss_one (ps_ret (pe_tup (pa_cons pe_str (pa_cons (pe_ix ix_tup (pv 1) pe_int (fun _ _ => rfl)) pa_nil))))), ?_⟩
  obtain ⟨x, hx, hxa⟩ := at_nth hos (i := 0) (q1 (.inl rfl))
  refine ⟨_, rfl, ot, _, 0, _, rfl, rfl, SqT.of hot, hx, by show 2 ≤ sizeLine; decide, fun t ht => ?_⟩
  have s1 := same_new ht (.tup [.str "give", x])
  exact q _ _ s1 (at_con upd_same (by decide +kernel) (ats_one (hxa.keep (fr_same s1))))
abbrev sMCall : Stmt := topS 36
theorem scMCall : FnScope ["thing", "operands", "inner"] ["thing", "operands", "inner"] (defScope sMCall) := ⟨rfl, rfl, rfl, by decide +kernel, rfl, by decide +kernel, by decide +kernel⟩
theorem c_mk_call {f : Addr} {fd : FuncData} (T : TxtMk mg) (F : Fun K "_make_call" "_make_call" sMCall f fd) (b : Binds K fd ["thing", "operands", "inner"] []) (hm : mg "_make_call" = some (.ref f)) : C8.Cal P w K mg base 1 "_make_call" (spMk "call") [] := by
  refine cal_of F hm b scMCall (fun vs H Q E h => ?_) (fun cdv A outer s H vs Q E hr h => ?_)
  · obtain ⟨v, r, ops, is, ot, il, os, cs, rfl, _⟩ := h
    rfl
  obtain ⟨v, r, ops, is, ot, il, os, cs, rfl, hat, hsz, hot, hil, hos, hcs, hol, hcl, hreq, q⟩ := h
  obtain ⟨q1, q2, q3, q4, q5, q6, q7, q8, q9, q10⟩ := hreq
  have hu := hu_of hr
  have hbig := big
  have hlo := ats_len hos
  have hlc := ats_len hcs
  obtain ⟨a, ys, rfl, ha, hys, hyl, hzl⟩ := head_at hat
  refine ⟨_, (pss_one (ps_ret (pe_tup (pa_cons pe_str (pa_cons (pe_ix ix_tup (pv 1) pe_int (fun _ _ => rfl)) (pa_cons (pe_slice sl_tupA (pv 1) (po_some pe_int) po_none) pa_nil)))))), ?_⟩
  have h1 := q1 (.inr rfl)
  obtain ⟨x, hx, hxa⟩ := at_nth hos (i := 0) h1
  refine ⟨_, rfl, ot, _, 0, _, rfl, rfl, SqT.of hot, hx, _, rfl, _, rfl, ot, _, rfl, SqT.of hot, fun h => absurd h.1 (cut_no1 1 _ _ (by omega)), fun _ u hu => ?_⟩
  rw [show cutV os (some 1) none = os.drop 1 from cut_from os 1 (by omega)]
  have s1 := same_new hu (.tup (os.drop 1))
  refine ⟨by show 3 ≤ sizeLine; decide, fun t ht => ?_⟩
  have s2 := same_new ht (.tup [.str "call", x, .ref u])
  have s12 := sameT s1 s2
  exact q _ _ s12 (at_con upd_same (by decide +kernel) (ats_cons (hxa.keep (fr_same s12)) (ats_one (at_tup (s2 _ _ upd_same) ((ats_drop hos).keep (fr_same s12))))))
abbrev sMCon : Stmt := topS 37
theorem scMCon : FnScope ["thing", "operands", "inner"] ["thing", "operands", "inner"] (defScope sMCon) := ⟨rfl, rfl, rfl, by decide +kernel, rfl, by decide +kernel, by decide +kernel⟩
theorem c_mk_con {f : Addr} {fd : FuncData} (T : TxtMk mg) (F : Fun K "_make_con" "_make_con" sMCon f fd) (b : Binds K fd ["thing", "operands", "inner"] []) (hm : mg "_make_con" = some (.ref f)) : C8.Cal P w K mg base 1 "_make_con" (spMk "con") [] := by
  refine cal_of F hm b scMCon (fun vs H Q E h => ?_) (fun cdv A outer s H vs Q E hr h => ?_)
  · obtain ⟨v, r, ops, is, ot, il, os, cs, rfl, _⟩ := h
    rfl
  obtain ⟨v, r, ops, is, ot, il, os, cs, rfl, hat, hsz, hot, hil, hos, hcs, hol, hcl, hreq, q⟩ := h
  obtain ⟨q1, q2, q3, q4, q5, q6, q7, q8, q9, q10⟩ := hreq
  have hu := hu_of hr
  have hbig := big
  have hlo := ats_len hos
  have hlc := ats_len hcs
  obtain ⟨a, ys, rfl, ha, hys, hyl, hzl⟩ := head_at hat
  refine ⟨_, (pss_one (ps_ret (pe_tup (pa_cons pe_str (pa_cons (pe_ix ix_tup (pv 0) pe_int (fun _ _ => rfl)) (pa_cons (pv 1) pa_nil)))))), ?_⟩
  obtain ⟨x, hx, hxa⟩ := arg_at (v0 := .str "con") hys (i := 0) (q2 rfl)
  refine ⟨_, rfl, a, _, 1, _, rfl, rfl, SqT.of ha, hx, _, rfl, by show 3 ≤ sizeLine; decide, fun t ht => ?_⟩
  have s1 := same_new ht (.tup [.str "con", x, .ref ot])
  exact q _ _ s1 (at_con upd_same (by decide +kernel) (ats_cons ((hxa.keep (fr_same s1))) (ats_one (at_tup (s1 _ _ hot) (hos.keep (fr_same s1))))))
abbrev sMPrim : Stmt := topS 38
theorem scMPrim : FnScope ["thing", "operands", "inner"] ["thing", "operands", "inner"] (defScope sMPrim) := ⟨rfl, rfl, rfl, by decide +kernel, rfl, by decide +kernel, by decide +kernel⟩
theorem c_mk_prim {f : Addr} {fd : FuncData} (T : TxtMk mg) (F : Fun K "_make_prim" "_make_prim" sMPrim f fd) (b : Binds K fd ["thing", "operands", "inner"] []) (hm : mg "_make_prim" = some (.ref f)) : C8.Cal P w K mg base 1 "_make_prim" (spMk "prim") [] := by
  refine cal_of F hm b scMPrim (fun vs H Q E h => ?_) (fun cdv A outer s H vs Q E hr h => ?_)
  · obtain ⟨v, r, ops, is, ot, il, os, cs, rfl, _⟩ := h
    rfl
  obtain ⟨v, r, ops, is, ot, il, os, cs, rfl, hat, hsz, hot, hil, hos, hcs, hol, hcl, hreq, q⟩ := h
  obtain ⟨q1, q2, q3, q4, q5, q6, q7, q8, q9, q10⟩ := hreq
  have hu := hu_of hr
  have hbig := big
  have hlo := ats_len hos
  have hlc := ats_len hcs
  obtain ⟨a, ys, rfl, ha, hys, hyl, hzl⟩ := head_at hat
  refine ⟨_, (pss_one (ps_ret (pe_tup (pa_cons pe_str (pa_cons (pe_ix ix_tup (pv 0) pe_int (fun _ _ => rfl)) (pa_cons (pe_ix ix_tup (pv 1) pe_int (fun _ _ => rfl)) (pa_cons (pe_ix ix_tup (pv 1) pe_int (fun _ _ => rfl)) pa_nil))))))), ?_⟩
  obtain ⟨h1, h2⟩ := q3 rfl
  obtain ⟨x, hx, hxa⟩ := arg_at (v0 := .str "prim") hys (i := 0) h1
  obtain ⟨y, hy, hya⟩ := at_nth hos (i := 0) (by omega)
  obtain ⟨u, hu1, hua⟩ := at_nth hos (i := 1) (by omega)
  refine ⟨_, rfl, a, _, 1, _, rfl, rfl, SqT.of ha, hx, _, rfl, ot, _, 0, _, rfl, rfl, SqT.of hot, hy, _, rfl, ot, _, 1, _, rfl, rfl, SqT.of hot, hu1, by show 4 ≤ sizeLine; decide, fun t ht => ?_⟩
  have s1 := same_new ht (.tup [.str "prim", x, y, u])
  exact q _ _ s1 (at_con upd_same (by decide +kernel) (ats_cons ((hxa.keep (fr_same s1))) (ats_cons (hya.keep (fr_same s1)) (ats_one (hua.keep (fr_same s1))))))
abbrev sMLet : Stmt := topS 39
theorem scMLet : FnScope ["thing", "operands", "inner"] ["thing", "operands", "inner"] (defScope sMLet) := ⟨rfl, rfl, rfl, by decide +kernel, rfl, by decide +kernel, by decide +kernel⟩
theorem c_mk_let {f : Addr} {fd : FuncData} (T : TxtMk mg) (F : Fun K "_make_let" "_make_let" sMLet f fd) (b : Binds K fd ["thing", "operands", "inner"] []) (hm : mg "_make_let" = some (.ref f)) : C8.Cal P w K mg base 1 "_make_let" (spMk "let") [] := by
  refine cal_of F hm b scMLet (fun vs H Q E h => ?_) (fun cdv A outer s H vs Q E hr h => ?_)
  · obtain ⟨v, r, ops, is, ot, il, os, cs, rfl, _⟩ := h
    rfl
  obtain ⟨v, r, ops, is, ot, il, os, cs, rfl, hat, hsz, hot, hil, hos, hcs, hol, hcl, hreq, q⟩ := h
  obtain ⟨q1, q2, q3, q4, q5, q6, q7, q8, q9, q10⟩ := hreq
  have hu := hu_of hr
  have hbig := big
  have hlo := ats_len hos
  have hlc := ats_len hcs
  obtain ⟨a, ys, rfl, ha, hys, hyl, hzl⟩ := head_at hat
  refine ⟨_, (pss_one (ps_ret (pe_tup (pa_cons pe_str (pa_cons (pe_callTy call_tuple_of rfl T.ztuple boot_tuple (pa_cons (pe_slice sl_list (pv 2) po_none (po_some (pe_un un_neg pe_int))) pa_nil)) (pa_cons (pe_ix ix_list (pv 2) (pe_un un_neg pe_int) (fun _ _ => rfl)) pa_nil)))))), ?_⟩
  have h1 := q4 rfl
  obtain ⟨x, hx, hxa⟩ := at_last hcs h1
  refine ⟨_, rfl, _, rfl, _, rfl, il, _, rfl, SqL.of hil, fun l1 hl1 => ?_⟩
  rw [cut_last]
  have s1 := same_new hl1 (.lst cs.dropLast)
  refine ⟨l1, _, rfl, .inl ⟨SqL.of upd_same, fun u hu => ?_⟩⟩
  have s2 := same_new hu (.tup cs.dropLast)
  have s12 := sameT s1 s2
  refine ⟨_, rfl, _, rfl, il, _, -1, _, rfl, rfl, SqL.of (s12 _ _ hil), hx, by show 3 ≤ sizeLine; decide, fun t ht => ?_⟩
  have s3 := same_new ht (.tup [.str "let", .ref u, x])
  have s13 := sameT s12 s3
  exact q _ _ s13 (at_con upd_same (by decide +kernel) (ats_cons (at_tup (s3 _ _ upd_same) ((ats_dropLast hcs).keep (fr_same s13))) (ats_one (hxa.keep (fr_same s13)))))
abbrev sMSeq : Stmt := topS 40
theorem scMSeq : FnScope ["thing", "operands", "inner"] ["thing", "operands", "inner"] (defScope sMSeq) := ⟨rfl, rfl, rfl, by decide +kernel, rfl, by decide +kernel, by decide +kernel⟩
theorem c_mk_seq {f : Addr} {fd : FuncData} (T : TxtMk mg) (F : Fun K "_make_seq" "_make_seq" sMSeq f fd) (b : Binds K fd ["thing", "operands", "inner"] []) (hm : mg "_make_seq" = some (.ref f)) : C8.Cal P w K mg base 1 "_make_seq" (spMk "seq") [] := by
  refine cal_of F hm b scMSeq (fun vs H Q E h => ?_) (fun cdv A outer s H vs Q E hr h => ?_)
  · obtain ⟨v, r, ops, is, ot, il, os, cs, rfl, _⟩ := h
    rfl
  obtain ⟨v, r, ops, is, ot, il, os, cs, rfl, hat, hsz, hot, hil, hos, hcs, hol, hcl, hreq, q⟩ := h
  obtain ⟨q1, q2, q3, q4, q5, q6, q7, q8, q9, q10⟩ := hreq
  have hu := hu_of hr
  have hbig := big
  have hlo := ats_len hos
  have hlc := ats_len hcs
  obtain ⟨a, ys, rfl, ha, hys, hyl, hzl⟩ := head_at hat
  refine ⟨_, (pss_one (ps_ret (pe_tup (pa_cons pe_str (pa_cons (pe_ix ix_list (pv 2) pe_int (fun _ _ => rfl)) (pa_cons (pe_ix ix_list (pv 2) pe_int (fun _ _ => rfl)) pa_nil)))))), ?_⟩
  have h1 := q5 rfl
  obtain ⟨x, hx, hxa⟩ := at_nth hcs (i := 0) (by omega)
  obtain ⟨y, hy, hya⟩ := at_nth hcs (i := 1) (by omega)
  refine ⟨_, rfl, il, _, 0, _, rfl, rfl, SqL.of hil, hx, _, rfl, il, _, 1, _, rfl, rfl, SqL.of hil, hy, by show 3 ≤ sizeLine; decide, fun t ht => ?_⟩
  have s1 := same_new ht (.tup [.str "seq", x, y])
  exact q _ _ s1 (at_con upd_same (by decide +kernel) (ats_cons (hxa.keep (fr_same s1)) (ats_one (hya.keep (fr_same s1)))))
abbrev sMCase : Stmt := topS 41
theorem scMCase : FnScope ["thing", "operands", "inner", "alternatives", "body", "tag", "names", "_"] ["thing", "operands", "inner"] (defScope sMCase) := ⟨rfl, rfl, rfl, by decide +kernel, rfl, by decide +kernel, by decide +kernel⟩
theorem c_mk_case {f : Addr} {fd : FuncData} (T : TxtMk mg) (F : Fun K "_make_case" "_make_case" sMCase f fd) (b : Binds K fd ["thing", "operands", "inner"] []) (hm : mg "_make_case" = some (.ref f)) : C8.Cal P w K mg base 1 "_make_case" (spMk "case") [] := by
  refine cal_of F hm b scMCase (fun vs H Q E h => ?_) (fun cdv A outer s H vs Q E hr h => ?_)
  · obtain ⟨v, r, ops, is, ot, il, os, cs, rfl, _⟩ := h
    rfl
  obtain ⟨v, r, ops, is, ot, il, os, cs, rfl, hat, hsz, hot, hil, hos, hcs, hol, hcl, hreq, q⟩ := h
  obtain ⟨q1, q2, q3, q4, q5, q6, q7, q8, q9, q10⟩ := hreq
  have hu := hu_of hr
  have hbig := big
  have hlo := ats_len hos
  have hlc := ats_len hcs
  obtain ⟨a, ys, rfl, ha, hys, hyl, hzl⟩ := head_at hat
  refine ⟨_, (pss_cons (ps_setLc (i := 3) (own := [("body", 4), ("tag", 5), ("names", 6), ("_", 7)]) (g := gTup K 2 (gCons (gTup K 3 (gCons (gName 5) (gCons (gName 6) (gCons (gName 7) (gNil))))) (gCons (gName 4) (gNil)))) (tt := tYes) (te := (tTup (tCons (tVar 5) (tCons (tCB (fun xs H Q => ∃ p ys, xs = [V.ref p] ∧ (SqL K H p ys ∨ SqT K H p ys) ∧ Q (V.int (ys.length : Nat)) H) (tCons (tVar 6) tNil)) (tCons (tVar 4) tNil))))) rfl scMCase.nd rfl rfl (sw_true rfl rfl rfl (by decide +kernel)) (Mix.pi_zipG true false rfl T.zzip (pa_cons (pe_ix ix_tup (pv 0) pe_int (fun _ _ => rfl)) (pa_cons (pe_slice sl_list (pv 2) (po_some pe_int) po_none) pa_nil))) (blkOk_by (own := [("body", 4), ("tag", 5), ("names", 6), ("_", 7)]) (N := ["thing", "operands", "inner", "alternatives", "body", "tag", "names", "_"]) (sc := defScope sMCase) (by decide +kernel)) (fun _ _ _ _ _ => (pg_tup rfl (pgs_cons (pg_tup rfl (pgs_cons (pg_name (i := 5) scMCase.nd rfl (Or.inl rfl)) (pgs_cons (pg_name (i := 6) scMCase.nd rfl (Or.inl rfl)) (pgs_cons (pg_name (i := 7) scMCase.nd rfl (Or.inl rfl)) pgs_nil)))) (pgs_cons (pg_name (i := 4) scMCase.nd rfl (Or.inl rfl)) pgs_nil)))) (fun _ _ _ _ _ => pts_nil) (fun _ _ _ _ _ => (pe_tup (pa_cons (pv 5) (pa_cons (pe_callB call_len_seq rfl T.zlen PySem.boot_len (pa_cons (pv 6) pa_nil)) (pa_cons (pv 4) pa_nil))))))
    (pss_one (ps_ret (pe_tup (pa_cons pe_str (pa_cons (pe_ix ix_list (pv 2) pe_int (fun _ _ => rfl)) (pa_cons (pe_callTy call_tuple_of rfl T.ztuple boot_tuple (pa_cons (pv 3) pa_nil)) (pa_cons (pe_ifExp (pt_cmpR op_isN (pe_ix ix_tup (pv 0) pe_int (fun _ _ => rfl)) pe_non (nomark _)) pe_non (pe_ix ix_list (pv 2) (pe_un un_neg pe_int) (fun _ _ => rfl))) pa_nil)))))))), ?_⟩
  obtain ⟨x0, d, rows, rfl, hrows, hisl⟩ := q6 rfl
  obtain ⟨v0, ys0, rfl, h0, v1, ys1, rfl, h1, v2, ys2, rfl, h2, hn⟩ := hys
  cases (show ys2 = [] from hn)
  obtain ⟨p, zs, rfl, ep, hps⟩ := h1
  have hpl := ats_len hps
  have hrz := szs_len rows
  have hz1 : (Dd.tup (.str "case" :: [x0, .tup rows, d])).sz = 1 + (1 + (x0.sz + ((1 + Dd.szs rows) + (d.sz + 0)))) := rfl
  refine ⟨_, rfl, a, _, 2, _, rfl, rfl, SqT.of ha, rfl, _, rfl, _, rfl, il, cs, rfl, SqL.of hil, fun l1 hl1 => ?_⟩
  rw [show cutV cs (some 1) none = cs.drop 1 from cut_from cs 1 (by omega)]
  have s1 := same_new hl1 (.lst (cs.drop 1))
  have e1 : upd H l1 (.lst (cs.drop 1)) l1 = some (.lst (cs.drop 1)) := upd_same
  have hds := (ats_drop hcs).keep (fr_same (B := F0) s1)
  generalize upd H l1 (.lst (cs.drop 1)) = H1 at s1 e1 hds ⊢
  have hdl : (cs.drop 1).length = cs.length - 1 := List.length_drop ..
  have hdl2 : (is.drop 1).length = is.length - 1 := List.length_drop ..
  refine ⟨p, l1, zs, _, rfl, SqT.of (s1 _ _ ep), SqL.of e1, fun D hD => ?_⟩
  refine Mix.lc_zipG (ca := true) (cb := false) (a := p) (b := l1) (xs := zs) (ys := cs.drop 1) (by omega) (fun i G => Same H1 G ∧ ∃ us : List V, G D = some (.lst us) ∧ Dd.Ats F0 G ((List.zipWith tagRow rows (is.drop 1)).take i) us) ⟨same_new hD _, [], upd_same, by rw [List.take_zero]; rfl⟩ (fun i G ⟨h, _⟩ => ⟨SqT.of (h _ _ (s1 _ _ ep)), SqL.of (h _ _ e1)⟩) ?_ ?_
  · rintro i x y T5 G hxi hyi ⟨sG, us, eD, aU⟩ hT
    obtain ⟨rw5, hr5, hra⟩ := ats_get hps hxi
    obtain ⟨kk, hk, hka⟩ := ats_get hds hyi
    have hil5 := (List.getElem?_eq_some_iff.mp hr5).1
    have hul := ats_len aU
    rw [List.length_take] at hul
    have hzw : (List.zipWith tagRow rows (is.drop 1))[i]? = some (tagRow rw5 kk) := by rw [List.getElem?_zipWith, hr5, hk]
    obtain ⟨t1, b1, ns, rfl⟩ := hrows rw5 (List.mem_of_getElem? hr5)
    obtain ⟨t2, us2, rfl, ht2, w0, us3, rfl, hw0, w1, us4, rfl, hw1, w2, us5, rfl, hw2, hn5⟩ := hra
    cases (show us5 = [] from hn5)
    obtain ⟨nt, nv, rfl, hnt, hnv⟩ := hw1
    have hnl := ats_len hnv
    have sT := same_new hT (.tup [.ref t2, y])
    have s1G := sameT s1 sG
    have sGT := sameT s1G sT
    refine ⟨T5, _, rfl, SqT.of upd_same, rfl, _, _, rfl, t2, _, rfl, SqT.of (sGT _ _ ht2), rfl, _, _, rfl, _, _, rfl, _, _, rfl, rfl, _, _, rfl, rfl, rfl, ?_⟩
    refine tYes_if ?_
    refine ⟨_, rfl, _, rfl, nt, _, rfl, .inr (SqT.of (sGT _ _ hnt)), _, rfl, by show 3 ≤ sizeLine; decide, fun t9 ht9 => ⟨us, (sameT sT (same_new ht9 _)) _ _ eD, by omega, ?_⟩⟩
    have s9 := sameT sT (same_new ht9 (.tup [w0, .int (nv.length : Nat), y]))
    have e9 : upd (upd G T5 (.tup [.ref t2, y])) t9 (.tup [w0, .int (nv.length : Nat), y]) t9 = some (.tup [w0, .int (nv.length : Nat), y]) := upd_same
    have eD9 := s9 _ _ eD
    have sG9 := sameT sG s9
    replace aU := aU.keep (fr_same s9)
    have hw09 := hw0.keep (fr_same (B := F0) (sameT s1 sG9))
    have hka9 := hka.keep (fr_same (B := F0) sG9)
    generalize upd (upd G T5 (.tup [.ref t2, y])) t9 (.tup [w0, .int (nv.length : Nat), y]) = G9 at s9 e9 eD9 sG9 aU hw09 hka9 ⊢
    have f9 : Fr F0 G9 (upd G9 D (.lst (us ++ [.ref t9]))) := fr_list eD9 fun z => z
    refine ⟨same_upd hD sG9 _, us ++ [.ref t9], upd_same, ?_⟩
    rw [List.take_add_one, hzw]
    exact ats_app (aU.keep f9) (ats_one (at_tup (f9.1 _ _ e9) (ats_cons (hw09.keep f9) (ats_cons (by show V.int (nv.length : Nat) = V.int (ns.length : Nat); rw [hnl]) (ats_one (hka9.keep f9))))))
  rintro G ⟨sG, us, eD, aU⟩
  have hzwl : (List.zipWith tagRow rows (is.drop 1)).length = zs.length := by rw [List.length_zipWith]; omega
  rw [← hzwl, List.take_length] at aU
  show gName 3 (V.ref D) _ _ _
  have sHG := sameT s1 sG
  obtain ⟨y0, g0, b0⟩ := at_nth hcs (i := 0) (by omega)
  have sHG' := sHG
  refine ⟨_, rfl, il, _, 0, _, rfl, rfl, SqL.of (sHG _ _ hil), g0, _, rfl, D, us, rfl, .inl ⟨SqL.of eD, fun t7 ht7 => ?_⟩⟩
  have s7 := same_new ht7 (.tup us)
  have sA := sameT sHG s7
  refine ⟨_, rfl, a, _, 3, _, rfl, rfl, SqT.of (sA _ _ ha), at3 _ _ _ _ _, rfl, _, rfl, ?_⟩
  have fin : ∀ (v5 : V), (dfOr d is).At F0 (upd G t7 (.tup us)) v5 → ∀ t8, upd G t7 (.tup us) t8 = none → Q (.ref t8) (upd (upd G t7 (.tup us)) t8 (.tup [.str "case", y0, .ref t7, v5])) := fun v5 h5 t8 ht8 => by
    have s8 := same_new ht8 (.tup [.str "case", y0, .ref t7, v5])
    have sB := sameT sA s8
    exact q _ _ sB (at_con upd_same (by decide +kernel) (ats_cons (b0.keep (fr_same sB)) (ats_cons (at_tup (s8 _ _ upd_same) (aU.keep (fr_same (sameT s7 s8)))) (ats_one (h5.keep (fr_same s8))))))
  cases d with
  | non =>
    rw [show decide (v2 = V.non) = true from decide_eq_true (show v2 = .non from h2)]
    refine iteT ?_
    exact ⟨by show 4 ≤ sizeLine; decide, fun t8 ht8 => fin .non rfl t8 ht8⟩
  | int i => 
    have nn : v2 ≠ .non := by cases (show v2 = .int i from h2); exact fun e => by cases e
    rw [decide_eq_false nn]
    refine iteF ?_
    obtain ⟨x9, h9, a9⟩ := at_last hcs (by omega)
    exact ⟨_, rfl, _, rfl, il, _, -1, _, rfl, rfl, SqL.of (sA _ _ hil), h9, by show 4 ≤ sizeLine; decide, fun t8 ht8 => fin x9 (a9.keep (fr_same sA)) t8 ht8⟩
  | bl i => 
    have nn : v2 ≠ .non := by cases (show v2 = .bl i from h2); exact fun e => by cases e
    rw [decide_eq_false nn]
    refine iteF ?_
    obtain ⟨x9, h9, a9⟩ := at_last hcs (by omega)
    exact ⟨_, rfl, _, rfl, il, _, -1, _, rfl, rfl, SqL.of (sA _ _ hil), h9, by show 4 ≤ sizeLine; decide, fun t8 ht8 => fin x9 (a9.keep (fr_same sA)) t8 ht8⟩
  | str i => 
    have nn : v2 ≠ .non := by obtain ⟨rfl, _⟩ := (show v2 = .str i ∧ _ from h2); exact fun e => by cases e
    rw [decide_eq_false nn]
    refine iteF ?_
    obtain ⟨x9, h9, a9⟩ := at_last hcs (by omega)
    exact ⟨_, rfl, _, rfl, il, _, -1, _, rfl, rfl, SqL.of (sA _ _ hil), h9, by show 4 ≤ sizeLine; decide, fun t8 ht8 => fin x9 (a9.keep (fr_same sA)) t8 ht8⟩
  | tup i => 
    have nn : v2 ≠ .non := by obtain ⟨_, _, rfl, _⟩ := h2; exact fun e => by cases e
    rw [decide_eq_false nn]
    refine iteF ?_
    obtain ⟨x9, h9, a9⟩ := at_last hcs (by omega)
    exact ⟨_, rfl, _, rfl, il, _, -1, _, rfl, rfl, SqL.of (sA _ _ hil), h9, by show 4 ≤ sizeLine; decide, fun t8 ht8 => fin x9 (a9.keep (fr_same sA)) t8 ht8⟩
  | lst i => 
    have nn : v2 ≠ .non := by obtain ⟨_, _, rfl, _⟩ := h2; exact fun e => by cases e
    rw [decide_eq_false nn]
    refine iteF ?_
    obtain ⟨x9, h9, a9⟩ := at_last hcs (by omega)
    exact ⟨_, rfl, _, rfl, il, _, -1, _, rfl, rfl, SqL.of (sA _ _ hil), h9, by show 4 ≤ sizeLine; decide, fun t8 ht8 => fin x9 (a9.keep (fr_same sA)) t8 ht8⟩
abbrev sMPick : Stmt := topS 42
theorem scMPick : FnScope ["thing", "operands", "inner", "alternatives", "body", "number", "_"] ["thing", "operands", "inner"] (defScope sMPick) := ⟨rfl, rfl, rfl, by decide +kernel, rfl, by decide +kernel, by decide +kernel⟩
theorem c_mk_pick {f : Addr} {fd : FuncData} (T : TxtMk mg) (F : Fun K "_make_pick" "_make_pick" sMPick f fd) (b : Binds K fd ["thing", "operands", "inner"] []) (hm : mg "_make_pick" = some (.ref f)) : C8.Cal P w K mg base 1 "_make_pick" (spMk "pick") [] := by
  refine cal_of F hm b scMPick (fun vs H Q E h => ?_) (fun cdv A outer s H vs Q E hr h => ?_)
  · obtain ⟨v, r, ops, is, ot, il, os, cs, rfl, _⟩ := h
    rfl
  obtain ⟨v, r, ops, is, ot, il, os, cs, rfl, hat, hsz, hot, hil, hos, hcs, hol, hcl, hreq, q⟩ := h
  obtain ⟨q1, q2, q3, q4, q5, q6, q7, q8, q9, q10⟩ := hreq
  have hu := hu_of hr
  have hbig := big
  have hlo := ats_len hos
  have hlc := ats_len hcs
  obtain ⟨a, ys, rfl, ha, hys, hyl, hzl⟩ := head_at hat
  refine ⟨_, (pss_cons (ps_setLc (i := 3) (own := [("body", 4), ("number", 5), ("_", 6)]) (g := gTup K 2 (gCons (gTup K 2 (gCons (gName 5) (gCons (gName 6) (gNil)))) (gCons (gName 4) (gNil)))) (tt := tYes) rfl scMPick.nd rfl rfl (sw_true rfl rfl rfl (by decide +kernel)) (Mix.pi_zipG true false rfl T.zzip (pa_cons (pe_ix ix_tup (pv 0) pe_int (fun _ _ => rfl)) (pa_cons (pe_slice sl_list (pv 2) (po_some pe_int) po_none) pa_nil))) (blkOk_by (own := [("body", 4), ("number", 5), ("_", 6)]) (N := ["thing", "operands", "inner", "alternatives", "body", "number", "_"]) (sc := defScope sMPick) (by decide +kernel)) (fun _ _ _ _ _ => (pg_tup rfl (pgs_cons (pg_tup rfl (pgs_cons (pg_name (i := 5) scMPick.nd rfl (Or.inl rfl)) (pgs_cons (pg_name (i := 6) scMPick.nd rfl (Or.inl rfl)) pgs_nil))) (pgs_cons (pg_name (i := 4) scMPick.nd rfl (Or.inl rfl)) pgs_nil)))) (fun _ _ _ _ _ => pts_nil) (fun _ _ _ _ _ => (pe_tup (pa_cons (pv 5) (pa_cons (pv 4) pa_nil)))))
    (pss_one (ps_ret (pe_tup (pa_cons pe_str (pa_cons (pe_ix ix_list (pv 2) pe_int (fun _ _ => rfl)) (pa_cons (pe_callTy call_tuple_of rfl T.ztuple boot_tuple (pa_cons (pv 3) pa_nil)) (pa_cons (pe_ifExp (pt_cmpR op_isN (pe_ix ix_tup (pv 0) pe_int (fun _ _ => rfl)) pe_non (nomark _)) pe_non (pe_ix ix_list (pv 2) (pe_un un_neg pe_int) (fun _ _ => rfl))) pa_nil)))))))), ?_⟩
  obtain ⟨x0, d, rows, rfl, hrows, hisl⟩ := q7 rfl
  obtain ⟨v0, ys0, rfl, h0, v1, ys1, rfl, h1, v2, ys2, rfl, h2, hn⟩ := hys
  cases (show ys2 = [] from hn)
  obtain ⟨p, zs, rfl, ep, hps⟩ := h1
  have hpl := ats_len hps
  have hrz := szs_len rows
  have hz1 : (Dd.tup (.str "pick" :: [x0, .tup rows, d])).sz = 1 + (1 + (x0.sz + ((1 + Dd.szs rows) + (d.sz + 0)))) := rfl
  refine ⟨_, rfl, a, _, 2, _, rfl, rfl, SqT.of ha, rfl, _, rfl, _, rfl, il, cs, rfl, SqL.of hil, fun l1 hl1 => ?_⟩
  rw [show cutV cs (some 1) none = cs.drop 1 from cut_from cs 1 (by omega)]
  have s1 := same_new hl1 (.lst (cs.drop 1))
  have e1 : upd H l1 (.lst (cs.drop 1)) l1 = some (.lst (cs.drop 1)) := upd_same
  have hds := (ats_drop hcs).keep (fr_same (B := F0) s1)
  generalize upd H l1 (.lst (cs.drop 1)) = H1 at s1 e1 hds ⊢
  have hdl : (cs.drop 1).length = cs.length - 1 := List.length_drop ..
  have hdl2 : (is.drop 1).length = is.length - 1 := List.length_drop ..
  refine ⟨p, l1, zs, _, rfl, SqT.of (s1 _ _ ep), SqL.of e1, fun D hD => ?_⟩
  refine Mix.lc_zipG (ca := true) (cb := false) (a := p) (b := l1) (xs := zs) (ys := cs.drop 1) (by omega) (fun i G => Same H1 G ∧ ∃ us : List V, G D = some (.lst us) ∧ Dd.Ats F0 G ((List.zipWith numRow rows (is.drop 1)).take i) us) ⟨same_new hD _, [], upd_same, by rw [List.take_zero]; rfl⟩ (fun i G ⟨h, _⟩ => ⟨SqT.of (h _ _ (s1 _ _ ep)), SqL.of (h _ _ e1)⟩) ?_ ?_
  · rintro i x y T5 G hxi hyi ⟨sG, us, eD, aU⟩ hT
    obtain ⟨rw5, hr5, hra⟩ := ats_get hps hxi
    obtain ⟨kk, hk, hka⟩ := ats_get hds hyi
    have hil5 := (List.getElem?_eq_some_iff.mp hr5).1
    have hul := ats_len aU
    rw [List.length_take] at hul
    have hzw : (List.zipWith numRow rows (is.drop 1))[i]? = some (numRow rw5 kk) := by rw [List.getElem?_zipWith, hr5, hk]
    obtain ⟨t1, b1, rfl⟩ := hrows rw5 (List.mem_of_getElem? hr5)
    obtain ⟨t2, us2, rfl, ht2, w0, us3, rfl, hw0, w1, us4, rfl, hw1, hn5⟩ := hra
    cases (show us4 = [] from hn5)
    have sT := same_new hT (.tup [.ref t2, y])
    have s1G := sameT s1 sG
    have sGT := sameT s1G sT
    refine ⟨T5, _, rfl, SqT.of upd_same, rfl, _, _, rfl, t2, _, rfl, SqT.of (sGT _ _ ht2), rfl, _, _, rfl, _, _, rfl, rfl, _, _, rfl, rfl, rfl, ?_⟩
    refine tYes_if ?_
    refine ⟨_, rfl, _, rfl, by show 2 ≤ sizeLine; decide, fun t9 ht9 => ⟨us, (sameT sT (same_new ht9 _)) _ _ eD, by omega, ?_⟩⟩
    have s9 := sameT sT (same_new ht9 (.tup [w0, y]))
    have e9 : upd (upd G T5 (.tup [.ref t2, y])) t9 (.tup [w0, y]) t9 = some (.tup [w0, y]) := upd_same
    have eD9 := s9 _ _ eD
    have sG9 := sameT sG s9
    replace aU := aU.keep (fr_same s9)
    have hw09 := hw0.keep (fr_same (B := F0) (sameT s1 sG9))
    have hka9 := hka.keep (fr_same (B := F0) sG9)
    generalize upd (upd G T5 (.tup [.ref t2, y])) t9 (.tup [w0, y]) = G9 at s9 e9 eD9 sG9 aU hw09 hka9 ⊢
    have f9 : Fr F0 G9 (upd G9 D (.lst (us ++ [.ref t9]))) := fr_list eD9 fun z => z
    refine ⟨same_upd hD sG9 _, us ++ [.ref t9], upd_same, ?_⟩
    rw [List.take_add_one, hzw]
    exact ats_app (aU.keep f9) (ats_one (at_tup (f9.1 _ _ e9) (ats_cons (hw09.keep f9) (ats_one (hka9.keep f9)))))
  rintro G ⟨sG, us, eD, aU⟩
  have hzwl : (List.zipWith numRow rows (is.drop 1)).length = zs.length := by rw [List.length_zipWith]; omega
  rw [← hzwl, List.take_length] at aU
  show gName 3 (V.ref D) _ _ _
  have sHG := sameT s1 sG
  obtain ⟨y0, g0, b0⟩ := at_nth hcs (i := 0) (by omega)
  have sHG' := sHG
  refine ⟨_, rfl, il, _, 0, _, rfl, rfl, SqL.of (sHG _ _ hil), g0, _, rfl, D, us, rfl, .inl ⟨SqL.of eD, fun t7 ht7 => ?_⟩⟩
  have s7 := same_new ht7 (.tup us)
  have sA := sameT sHG s7
  refine ⟨_, rfl, a, _, 3, _, rfl, rfl, SqT.of (sA _ _ ha), at3 _ _ _ _ _, rfl, _, rfl, ?_⟩
  have fin : ∀ (v5 : V), (dfOr d is).At F0 (upd G t7 (.tup us)) v5 → ∀ t8, upd G t7 (.tup us) t8 = none → Q (.ref t8) (upd (upd G t7 (.tup us)) t8 (.tup [.str "pick", y0, .ref t7, v5])) := fun v5 h5 t8 ht8 => by
    have s8 := same_new ht8 (.tup [.str "pick", y0, .ref t7, v5])
    have sB := sameT sA s8
    exact q _ _ sB (at_con upd_same (by decide +kernel) (ats_cons (b0.keep (fr_same sB)) (ats_cons (at_tup (s8 _ _ upd_same) (aU.keep (fr_same (sameT s7 s8)))) (ats_one (h5.keep (fr_same s8))))))
  cases d with
  | non =>
    rw [show decide (v2 = V.non) = true from decide_eq_true (show v2 = .non from h2)]
    refine iteT ?_
    exact ⟨by show 4 ≤ sizeLine; decide, fun t8 ht8 => fin .non rfl t8 ht8⟩
  | int i => 
    have nn : v2 ≠ .non := by cases (show v2 = .int i from h2); exact fun e => by cases e
    rw [decide_eq_false nn]
    refine iteF ?_
    obtain ⟨x9, h9, a9⟩ := at_last hcs (by omega)
    exact ⟨_, rfl, _, rfl, il, _, -1, _, rfl, rfl, SqL.of (sA _ _ hil), h9, by show 4 ≤ sizeLine; decide, fun t8 ht8 => fin x9 (a9.keep (fr_same sA)) t8 ht8⟩
  | bl i => 
    have nn : v2 ≠ .non := by cases (show v2 = .bl i from h2); exact fun e => by cases e
    rw [decide_eq_false nn]
    refine iteF ?_
    obtain ⟨x9, h9, a9⟩ := at_last hcs (by omega)
    exact ⟨_, rfl, _, rfl, il, _, -1, _, rfl, rfl, SqL.of (sA _ _ hil), h9, by show 4 ≤ sizeLine; decide, fun t8 ht8 => fin x9 (a9.keep (fr_same sA)) t8 ht8⟩
  | str i => 
    have nn : v2 ≠ .non := by obtain ⟨rfl, _⟩ := (show v2 = .str i ∧ _ from h2); exact fun e => by cases e
    rw [decide_eq_false nn]
    refine iteF ?_
    obtain ⟨x9, h9, a9⟩ := at_last hcs (by omega)
    exact ⟨_, rfl, _, rfl, il, _, -1, _, rfl, rfl, SqL.of (sA _ _ hil), h9, by show 4 ≤ sizeLine; decide, fun t8 ht8 => fin x9 (a9.keep (fr_same sA)) t8 ht8⟩
  | tup i => 
    have nn : v2 ≠ .non := by obtain ⟨_, _, rfl, _⟩ := h2; exact fun e => by cases e
    rw [decide_eq_false nn]
    refine iteF ?_
    obtain ⟨x9, h9, a9⟩ := at_last hcs (by omega)
    exact ⟨_, rfl, _, rfl, il, _, -1, _, rfl, rfl, SqL.of (sA _ _ hil), h9, by show 4 ≤ sizeLine; decide, fun t8 ht8 => fin x9 (a9.keep (fr_same sA)) t8 ht8⟩
  | lst i => 
    have nn : v2 ≠ .non := by obtain ⟨_, _, rfl, _⟩ := h2; exact fun e => by cases e
    rw [decide_eq_false nn]
    refine iteF ?_
    obtain ⟨x9, h9, a9⟩ := at_last hcs (by omega)
    exact ⟨_, rfl, _, rfl, il, _, -1, _, rfl, rfl, SqL.of (sA _ _ hil), h9, by show 4 ≤ sizeLine; decide, fun t8 ht8 => fin x9 (a9.keep (fr_same sA)) t8 ht8⟩
abbrev sMNote : Stmt := topS 43
theorem scMNote : FnScope ["thing", "operands", "inner"] ["thing", "operands", "inner"] (defScope sMNote) := ⟨rfl, rfl, rfl, by decide +kernel, rfl, by decide +kernel, by decide +kernel⟩
theorem c_mk_note {f : Addr} {fd : FuncData} (T : TxtMk mg) (F : Fun K "_make_note" "_make_note" sMNote f fd) (b : Binds K fd ["thing", "operands", "inner"] []) (hm : mg "_make_note" = some (.ref f)) : C8.Cal P w K mg base 1 "_make_note" (spMk "note") [] := by
  refine cal_of F hm b scMNote (fun vs H Q E h => ?_) (fun cdv A outer s H vs Q E hr h => ?_)
  · obtain ⟨v, r, ops, is, ot, il, os, cs, rfl, _⟩ := h
    rfl
  obtain ⟨v, r, ops, is, ot, il, os, cs, rfl, hat, hsz, hot, hil, hos, hcs, hol, hcl, hreq, q⟩ := h
  obtain ⟨q1, q2, q3, q4, q5, q6, q7, q8, q9, q10⟩ := hreq
  have hu := hu_of hr
  have hbig := big
  have hlo := ats_len hos
  have hlc := ats_len hcs
  obtain ⟨a, ys, rfl, ha, hys, hyl, hzl⟩ := head_at hat
  refine ⟨_, (pss_one (ps_ret (pe_tup (pa_cons pe_str (pa_cons (pe_ix ix_tup (pv 0) pe_int (fun _ _ => rfl)) (pa_cons (pe_ix ix_list (pv 2) pe_int (fun _ _ => rfl)) pa_nil)))))), ?_⟩
  obtain ⟨h1, h2⟩ := q8 rfl
  obtain ⟨x, hx, hxa⟩ := arg_at (v0 := .str "note") hys (i := 0) h1
  obtain ⟨y, hy, hya⟩ := at_nth hcs (i := 0) (by omega)
  refine ⟨_, rfl, a, _, 1, _, rfl, rfl, SqT.of ha, hx, _, rfl, il, _, 0, _, rfl, rfl, SqL.of hil, hy, by show 3 ≤ sizeLine; decide, fun t ht => ?_⟩
  have s1 := same_new ht (.tup [.str "note", x, y])
  exact q _ _ s1 (at_con upd_same (by decide +kernel) (ats_cons ((hxa.keep (fr_same s1))) (ats_one (hya.keep (fr_same s1)))))
abbrev sMLater : Stmt := topS 44
theorem scMLater : FnScope ["thing", "operands", "inner"] ["thing", "operands", "inner"] (defScope sMLater) := ⟨rfl, rfl, rfl, by decide +kernel, rfl, by decide +kernel, by decide +kernel⟩
theorem c_mk_later {f : Addr} {fd : FuncData} (T : TxtMk mg) (F : Fun K "_make_later" "_make_later" sMLater f fd) (b : Binds K fd ["thing", "operands", "inner"] []) (hm : mg "_make_later" = some (.ref f)) : C8.Cal P w K mg base 1 "_make_later" (spMk "later") [] := by
  refine cal_of F hm b scMLater (fun vs H Q E h => ?_) (fun cdv A outer s H vs Q E hr h => ?_)
  · obtain ⟨v, r, ops, is, ot, il, os, cs, rfl, _⟩ := h
    rfl
  obtain ⟨v, r, ops, is, ot, il, os, cs, rfl, hat, hsz, hot, hil, hos, hcs, hol, hcl, hreq, q⟩ := h
  obtain ⟨q1, q2, q3, q4, q5, q6, q7, q8, q9, q10⟩ := hreq
  have hu := hu_of hr
  have hbig := big
  have hlo := ats_len hos
  have hlc := ats_len hcs
  obtain ⟨a, ys, rfl, ha, hys, hyl, hzl⟩ := head_at hat
  refine ⟨_, (pss_one (ps_ret (pe_tup (pa_cons pe_str (pa_cons (pv 1) (pa_cons (pe_ix ix_list (pv 2) pe_int (fun _ _ => rfl)) pa_nil)))))), ?_⟩
  obtain ⟨y, hy, hya⟩ := at_nth hcs (i := 0) (q9 rfl)
  refine ⟨_, rfl, _, rfl, il, _, 0, _, rfl, rfl, SqL.of hil, hy, by show 3 ≤ sizeLine; decide, fun t ht => ?_⟩
  have s1 := same_new ht (.tup [.str "later", .ref ot, y])
  exact q _ _ s1 (at_con upd_same (by decide +kernel) (ats_cons (at_tup (s1 _ _ hot) (hos.keep (fr_same s1))) (ats_one (hya.keep (fr_same s1)))))
abbrev sMPart : Stmt := topS 45
theorem scMPart : FnScope ["thing", "operands", "inner", "_", "index"] ["thing", "operands", "inner"] (defScope sMPart) := ⟨rfl, rfl, rfl, by decide +kernel, rfl, by decide +kernel, by decide +kernel⟩
theorem c_mk_part {f : Addr} {fd : FuncData} (T : TxtMk mg) (F : Fun K "_make_part" "_make_part" sMPart f fd) (b : Binds K fd ["thing", "operands", "inner"] []) (hm : mg "_make_part" = some (.ref f)) : C8.Cal P w K mg base 1 "_make_part" (spMk "part") [] := by
  refine cal_of F hm b scMPart (fun vs H Q E h => ?_) (fun cdv A outer s H vs Q E hr h => ?_)
  · obtain ⟨v, r, ops, is, ot, il, os, cs, rfl, _⟩ := h
    rfl
  obtain ⟨v, r, ops, is, ot, il, os, cs, rfl, hat, hsz, hot, hil, hos, hcs, hol, hcl, hreq, q⟩ := h
  obtain ⟨q1, q2, q3, q4, q5, q6, q7, q8, q9, q10⟩ := hreq
  have hu := hu_of hr
  have hbig := big
  have hlo := ats_len hos
  have hlc := ats_len hcs
  obtain ⟨a, ys, rfl, ha, hys, hyl, hzl⟩ := head_at hat
  refine ⟨_, (pss_cons (ps_asg (pe_ix ix_tup (pv 1) pe_int (fun _ _ => rfl)) (pg_tup rfl (pgs_cons (pg_name (i := 3) scMPart.nd rfl (Or.inl rfl)) (pgs_cons (pg_name (i := 4) scMPart.nd rfl (Or.inl rfl)) pgs_nil))))
    (pss_one (ps_ret (pe_tup (pa_cons pe_str (pa_cons (pv 4) (pa_cons (pe_slice sl_tupA (pv 1) (po_some pe_int) po_none) pa_nil))))))), ?_⟩
  obtain ⟨d0, d1, rest, rfl⟩ := q10 rfl
  obtain ⟨o0, os', rfl, h0, hrest⟩ := hos
  obtain ⟨t0, x, y, rfl, et0, hx, hy⟩ := pair_at h0 rfl
  refine ⟨_, rfl, ot, _, 0, _, rfl, rfl, SqT.of hot, at0 _ _, t0, _, rfl, SqT.of et0, rfl, _, _, rfl, _, _, rfl, rfl, ?_⟩
  refine ⟨_, rfl, _, rfl, _, rfl, ot, _, rfl, SqT.of hot, fun h => absurd h.1 (cut_no1 1 _ _ (by rw [List.length_cons]; omega)), fun _ u hu => ?_⟩
  rw [show cutV (V.ref t0 :: os') (some 1) none = os' from cut_from (V.ref t0 :: os') 1 (by rw [List.length_cons]; omega)]
  have s1 := same_new hu (.tup os')
  refine ⟨by show 3 ≤ sizeLine; decide, fun t ht => ?_⟩
  have s2 := same_new ht (.tup [.str "part", y, .ref u])
  have s12 := sameT s1 s2
  exact q _ _ s12 (at_con upd_same (by decide +kernel) (ats_cons (hy.keep (fr_same s12)) (ats_one (at_tup (s2 _ _ upd_same) (hrest.keep (fr_same s12))))))
end
end Toy

set_option Elab.async false
set_option linter.all false
set_option maxRecDepth 100000
set_option maxHeartbeats 4000000
/-! Part L: xs[j:] = ys (from k23). -/
namespace Toy
open PySem PySem.Spec PyProof.Rows L2
section
variable {prog : Program} {w : World} {A : Around} {E : Value → Shared → Prop} {s : Shared}
theorem tail_bounds {j n : Nat} (hj : j ≤ n) : sliceBounds (some (j : Int)) none none n = ((j : Int), (n : Int), 1) := by
  simp only [sliceBounds, Option.getD_none]
  have q1 : ¬ ((j : Int) < 0) := by omega
  simp only [q1, if_false, show (1 : Int) > 0 by decide, if_true]
  first
    | rfl
    | (congr 1
       omega)
    | (congr 1
       · omega)
theorem setItem_tail {lst src sl : Addr} {old new : Array Value} {n1 n2 : Nat} {vj : Value} {j : Nat} {Q : Unit → Shared → Prop}
    (e1 : s.heap.get? lst = some { cls := .type "list", data := .seq old n1 }) (e2 : s.heap.get? src = some { cls := .type "list", data := .seq new n2 }) (dif : lst ≠ src)
    (hsl : s.heap.IsSliceOf sl vj .none .none) (pj : IsPart vj (some (j : Int))) (hj : j ≤ old.size)
    (hz : old.size + new.size ≤ sizeLine) (h : Q () { s with heap := s.heap.update lst (Obj.mapSeq fun xs => xs.extract 0 j ++ new ++ xs.extract old.size xs.size) }) :
    wpAny (model prog w) A (setItem (.ref lst) (.ref sl) (.ref src)) Q E s := by
  have h1 : s.heap.IsList lst old := PySem.IsL.isList e1
  have h2 : s.heap.IsList src new := PySem.IsL.isList e2
  obtain ⟨osl, hosl, hcsl, hdsl⟩ := id hsl
  have hTsl : s.TypeIs (.ref sl) "slice" := ⟨osl, hosl, hcsl⟩
  have nostep : ¬ ((rawPart none == rawInt 0) = true) := Bool.false_ne_true
  have nosame : Builtin.List.listSameRef (.ref lst) (.ref src) = false := by
    unfold Builtin.List.listSameRef
    exact beq_eq_false_iff_ne.mpr dif
  have hm : (max (j : Int) (old.size : Int)).toNat = old.size := by omega
  have hz2 : ((fun xs : Array Value => xs.extract 0 j ++ new ++ xs.extract old.size xs.size) old).size ≤ sizeLine + 1 := by
    simp only [Array.size_append, Array.size_extract]
    omega
  unfold setItem
  try with_reducible refine wpAny_holding ?_
  first | refine wpAny_bind (wpAny_pure ?_) | skip
  refine wpAny_bind (wpAny_sequenceKey h1.typeIs (by decide) ?_)
  refine wpAny_bind (wpAny_callSpecial?_slot (name := Str.ofString "__setitem__") h1.typeIs slot_list_setitem (wpAny_call_entry slot_list_setitem h1.typeIs entry_list_setitem ?_ (args_list_setitem _ _ _)))
  show wpAny _ _ (Builtin.List.listSubscript? (.ref sl) >>= _) _ _ s
  refine wpAny_bind ?_
  unfold Builtin.List.listSubscript?
  refine wpAny_bind (wpAny_specialOf hTsl slice_no_index ?_)
  simp only [Option.isNone_none, if_true]
  refine wpAny_pure ?_
  show wpAny _ _ (typeOf (.ref sl) >>= _) _ _ s
  refine wpAny_bind (wpAny_typeOf hTsl ?_)
  first
    | rw [if_neg (by decide)]
    | refine PySem.W.KFB.if_not (by decide) ?_
  rw [listSliceParts_eq]
  refine wpAny_bind (wpAny_bind (wpAny_field hosl hdsl (x := .none) rfl (wpAny_bind (wpAny_listPart .none ?_))))
  rw [if_neg nostep]
  refine wpAny_bind (wpAny_field hosl hdsl (x := vj) rfl (wpAny_bind (wpAny_listPart pj ?_)))
  refine wpAny_bind (wpAny_field hosl hdsl (x := .none) rfl (wpAny_bind (wpAny_listPart .none (wpAny_pure ?_))))
  first
    | simp only [nosame, Bool.false_eq_true, if_false]
    | refine PySem.W.KFB.if_not nosame ?_
    | (dsimp only
       rw [if_neg (by rw [nosame]; exact Bool.false_ne_true)])
  refine wpAny_bind (m := Builtin.List.listAllItems (.ref src) "must assign iterable to extended slice") ?_
  unfold Builtin.List.listAllItems
  refine wpAny_bind (wpAny_typeOf h2.typeIs ?_)
  first
    | refine PySem.W.KFB.if_so (by decide) ?_
    | rw [if_pos (by decide)]
    | simp only [beq_self_eq_true, Bool.true_or, if_true]
  unfold Builtin.List.listItems
  refine wpAny_bind (wpAny_seqItems e2 rfl (wpAny_pure ?_))
  refine wpAny_bind (wpAny_bind (wpAny_seqItems e1 rfl (wpAny_pure ?_)))
  refine wpAny_bind (wpAny_of_eq ((sliceIndices_raw (some (j : Int)) none none old.size (by simp)).trans (congrArg (pure : Int × Int × Int → Sem (Int × Int × Int)) (tail_bounds hj))) ?_)
  show wpAny _ _ (if ((1 : Int) == 1) = true then _ else _) _ _ s
  rw [if_pos (by decide)]
  refine wpAny_bind (wpAny_rule ?_)
  first
    | simp only [notLongL hz, Bool.false_eq_true, if_false]
    | refine PySem.W.KFB.if_not (notLongL hz) ?_
  first | refine wpAny_bind (wpAny_pure ?_) | skip
  show wpAny _ _ (updateSeq lst (fun xs => xs.extract 0 ((j : Int)).toNat ++ new ++ xs.extract (max (j : Int) (old.size : Int)).toNat xs.size) >>= _) _ _ s
  rw [hm, Int.toNat_natCast]
  refine wpAny_bind (wpAny_updateSeq (hz := Nat.le_trans (Nat.le_add_right _ _) hz) (_hz' := hz2) e1 rfl ?_)
  refine wpAny_bind (wpAny_letGo ?_)
  first
    | exact wpAny_bind (wpAny_pure (wpAny_pure ⟨.none, rfl, wpAny_pure h⟩))
    | exact wpAny_pure ⟨.none, rfl, wpAny_pure h⟩
end
section
variable {X : Cx}
def sTail (to ta tv : TE) : TS := fun D σ H => tv σ H fun v H1 => to σ H1 fun x H2 => ta σ H2 fun y H3 => ∃ (l b : Addr) (xs ys : List V) (j : Nat), x = .ref l ∧ v = .ref b ∧ y = .int (j : Int) ∧ H3 l = some (.lst xs) ∧ H3 b = some (.lst ys) ∧ l ≠ b ∧ j ≤ xs.length ∧ xs.length + ys.length ≤ sizeLine ∧ D.nx σ (upd H3 l (.lst (xs.take j ++ ys)))
theorem ps_tail {o a value : Expr} {to ta tv : TE} {p2 pos' pos : Pos} (ho : PE X o to) (ha : PE X a ta) (hv : PE X value tv) (hs : swapsWith value (some (.Subscript o (.Slice (some a) none none p2) pos')) pos.line X.env = pure false := by rfl) :
    PS X (.Assign [.Subscript o (.Slice (some a) none none p2) pos'] value pos) (sTail to ta tv) := by
  refine ⟨fun pins s σ H D I h => ?_⟩
  refine wpAny_Assign_Subscript (thn (hv.run pins s σ H _ I h) fun r s1 ⟨v, H1, I1, rv, q1⟩ => thn (ho.run pins s1 σ H1 _ I1 q1) fun u s2 ⟨x, H2, I2, rx, q2⟩ => ?_) hs
  refine wpAny_Slice ?_
  rw [evalPart_some]
  refine thn (ha.run pins s2 σ H2 _ I2 q2) fun iv s3 ⟨y, H3, I3, ry, l, b, xs, ys, j, ex, ev, ey, hl, hb, dif, hj, hz, q⟩ => ?_
  subst ex ev ey
  rw [evalPart_none]
  refine wpAny_pure ?_
  refine wpAny_pure ?_
  obtain ⟨tj, rfl⟩ := ry
  cases rx
  cases rv
  have I4 : Inv X pins σ H3 { s3 with heap := s3.heap.push { cls := .type "slice", data := .fields #[.int (j : Int) tj, .none, .none] } } := I3.kept (t' := s3.toks) fun b ob q => Heap.get?_push_of_some _ q
  obtain ⟨z, its, n, r, hll, e⟩ := I4.lstM hl
  obtain ⟨z2, its2, n2, r2, hll2, e2⟩ := I4.lstM hb
  refine setItem_tail (j := j) e e2 dif (Heap.IsSliceOf.new ..) (.int _ _) (by rw [List.size_toArray]; omega) (by rw [List.size_toArray, List.size_toArray]; omega) ?_
  refine ⟨_, _, I4.lset (its' := its.take j ++ its2) (t' := s3.toks) hl e ?_ (Vals.append (r.take _) r2) ?_, q⟩
  · show its.toArray.extract 0 j ++ its2.toArray ++ its.toArray.extract its.toArray.size its.toArray.size = (its.take j ++ its2).toArray
    rw [List.size_toArray]
    have z := splice_eq its its2 j its.length
    rw [List.size_toArray, List.drop_length, List.append_nil] at z
    exact z
  · rw [List.length_append, List.length_take]
    omega
end
end Toy

set_option Elab.async false
set_option linter.all false
set_option maxRecDepth 100000
set_option maxHeartbeats 4000000
/-! Part L6: _put_together; _body_code. -/
namespace L2
open PySem PySem.Spec PyProof.Rows
/-- d[key], d a dict of the module with text keys -/
theorem ix_kd {X : Cx} {d : Addr} {es : Array DictEntry} {n : Nat} (D : KDict X.K X.w d es n) :
    IxR X (fun x y H Q => ∃ (z : Str) (u0 : Value) (v0 : V), x = .ref d ∧ y = .str z ∧ PySem.W.nsIn X.K d z = some (some u0) ∧ RelV v0 u0 ∧ Q v0 H) := by
  intro value slice pins s σ H x y v u Q I rx ry h hs
  obtain ⟨z, u0, v0, rfl, rfl, e, r, q⟩ := h
  cases rx
  obtain ⟨t, rfl⟩ := ry
  exact PyProof.Rows.tail_any (kd_type D I) slot_dict_getitem.lookup (PySem.wpAny_getItem_of (PySem.strKind_is X.prog X.w z t) (PySem.W.mapOf_K (prog := X.prog) I.kIn D.at_ D.lit) (PySem.W.find_K D.at_ e) ⟨v0, H, I.tok _, r, q⟩) hs
end L2
namespace Toy
open PySem L2
open PyProof.Rows (envOfC)
/-! ### tasks in the heap -/
def KeepT (td da : Addr) (H H' : Hp) : Prop := ∀ b o, b ≠ td → b ≠ da → H b = some o → H' b = some o
theorem KeepT.of {td da : Addr} {H H' : Hp} (s : Same H H') : KeepT td da H H' := fun b o _ _ e => s b o e
theorem KeepT.trans {td da : Addr} {H H' H'' : Hp} (a : KeepT td da H H') (b : KeepT td da H' H'') : KeepT td da H H'' := fun x o n1 n2 e => b x o n1 n2 (a x o n1 n2 e)
theorem KeepT.td {td da : Addr} {H : Hp} (o : HO) : KeepT td da H (upd H td o) := fun b u n _ e => by rw [upd_ne n]; exact e
theorem KeepT.da {td da : Addr} {H : Hp} (o : HO) : KeepT td da H (upd H da o) := fun b u _ n e => by rw [upd_ne n]; exact e
def TAt (td da : Addr) (U : List Str) (H : Hp) : Tsk → V → Prop
  | .fresh k σ, v => ∃ (tt : Addr) (vk : V) (p D : Addr), v = .ref tt ∧ H tt = some (.tup [vk, .ref p, .non]) ∧ k.At F0 H vk ∧ ScAt H p D σ U ∧ D ≠ td ∧ D ≠ da
  | .ready w r ops, v => ∃ (tt : Addr) (vk : V) (p L : Addr) (os : List V), v = .ref tt ∧ H tt = some (.tup [vk, .ref p, .ref L]) ∧ (Dd.tup (.str w :: r)).At F0 H vk ∧ H L = some (.lst os) ∧ Dd.Ats F0 H ops os ∧ L ≠ td ∧ L ≠ da
def TAts (td da : Addr) (U : List Str) (H : Hp) : List Tsk → List V → Prop
  | [], xs => xs = []
  | t :: l, xs => ∃ x ys, xs = x :: ys ∧ TAt td da U H t x ∧ TAts td da U H l ys
section
variable {td da : Addr} {U : List Str} {H H' : Hp}
theorem TAt.keep {t : Tsk} {v : V} (h : TAt td da U H t v) (k : KeepT td da H H') (f : Fr F0 H H') : TAt td da U H' t v := by
  cases t with
  | fresh kk σ =>
    obtain ⟨tt, vk, p, D, e, h1, h2, ⟨kvs, h3, h4, h5⟩, h6, h7⟩ := h
    exact ⟨tt, vk, p, D, e, f.1 _ _ h1, h2.keep f, ⟨kvs, f.1 _ _ h3, k _ _ h6 h7 h4, h5⟩, h6, h7⟩
  | ready w r ops =>
    obtain ⟨tt, vk, p, L, os, e, h1, h2, h3, h4, h5, h6⟩ := h
    exact ⟨tt, vk, p, L, os, e, f.1 _ _ h1, h2.keep f, k _ _ h5 h6 h3, h4.keep f, h5, h6⟩
theorem TAts.keep : ∀ {l : List Tsk} {xs : List V}, TAts td da U H l xs → KeepT td da H H' → Fr F0 H H' → TAts td da U H' l xs
  | [], _, h, _, _ => h
  | _ :: _, _, ⟨x, ys, e, h, hs⟩, k, f => ⟨x, ys, e, h.keep k f, TAts.keep hs k f⟩
theorem TAts.app : ∀ {l m : List Tsk} {xs ys : List V}, TAts td da U H l xs → TAts td da U H m ys → TAts td da U H (l ++ m) (xs ++ ys)
  | [], _, xs, _, h, h2 => by cases (show xs = [] from h); exact h2
  | _ :: _, _, _, _, ⟨x, ys, e, h, hs⟩, h2 => by subst e; exact ⟨x, _, rfl, h, TAts.app hs h2⟩
theorem TAts.len : ∀ {l : List Tsk} {xs : List V}, TAts td da U H l xs → xs.length = l.length
  | [], xs, h => by cases (show xs = [] from h); rfl
  | _ :: _, _, ⟨x, ys, e, h, hs⟩ => by subst e; rw [List.length_cons, List.length_cons, TAts.len hs]
theorem TAts.snoc : ∀ {l : List Tsk} {t : Tsk} {xs : List V}, TAts td da U H (l ++ [t]) xs → ∃ ys x, xs = ys ++ [x] ∧ TAts td da U H l ys ∧ TAt td da U H t x
  | [], _, _, ⟨x, ys, e, h, hs⟩ => by
    cases (show ys = [] from hs)
    exact ⟨[], x, e, rfl, h⟩
  | _ :: _, _, _, ⟨x, ys, e, h, hs⟩ => by
    obtain ⟨zs, y, e2, h2, h3⟩ := TAts.snoc hs
    exact ⟨x :: zs, y, by rw [e, e2]; rfl, ⟨x, zs, rfl, h, h2⟩, h3⟩
theorem TAts.one {t : Tsk} {x : V} (h : TAt td da U H t x) : TAts td da U H [t] [x] := ⟨x, [], rfl, h, rfl⟩
end
/-- what is known of a task -/
def tkG (ix : Str → Option Int) (U : List Str) : Tsk → Prop
  | .fresh k σ => gl U k ∧ σ.Ok ∧ k.sz ≤ 100000
  | .ready w r ops => gl U (.tup (.str w :: r)) ∧ (Dd.tup (.str w :: r)).sz ≤ 100000 ∧ ops.length ≤ 1000000 ∧ ∃ σ σ' : Sc, OpsR ix (.tup (.str w :: r)) σ ops σ' ∧ opsBad σ.f ix w r = none
theorem ats_split {B : Addr → Prop} {H : Hp} : ∀ {l m : List Dd} {xs : List V}, Dd.Ats B H (l ++ m) xs → ∃ ys zs, xs = ys ++ zs ∧ Dd.Ats B H l ys ∧ Dd.Ats B H m zs
  | [], _, xs, h => ⟨[], xs, rfl, rfl, h⟩
  | _ :: _, _, _, ⟨x, ys, rfl, hx, h⟩ => by
    obtain ⟨us, zs, rfl, h1, h2⟩ := ats_split h
    exact ⟨x :: us, zs, rfl, ⟨x, us, rfl, hx, h1⟩, h2⟩
theorem inner_len {w : Str} {r : List Dd} (h : InnerOk w r) (c : w ∈ coreWords) (n : w ≠ "later") : (innerW w r).length = (partsW w r).length := by
  have hl : (scopesW w r).length = (partsW w r).length := scopes_len (k := .tup (.str w :: r)) (h.2 c)
  unfold innerW
  rw [if_neg n, if_pos c, List.length_zip, hl, Nat.min_self]
theorem dflt_n {d : Dd} (h : isDflt d = true) : (dfltP d).length = dfN d := by
  match d, h with
  | .non, _ => rfl
  | .tup _, _ => rfl
theorem req_of {ix : Str → Option Int} {U : List Str} {w : Str} {r ops cs : List Dd} {σ σ' : Sc} (hg : gl U (.tup (.str w :: r))) (ho : OpsR ix (.tup (.str w :: r)) σ ops σ') (hb : opsBad σ.f ix w r = none) (hc : cs.length = (innerW w r).length) : MkReq w r ops cs := by
  obtain ⟨z', r', ee, hao, hio, hatm, hmk, _⟩ := gl_parts hg
  have ee := Dd.tup.inj ee
  obtain ⟨ee1, ee2⟩ := List.cons.inj ee
  cases Dd.str.inj ee1
  cases ee2
  have hops : w ≠ "later" → ops = opsD σ.f ix w r := fun n => by
    cases ho with
    | later _ => exact (n rfl).elim
    | other _ => rfl
  refine ⟨fun e => ?_, fun e => ?_, fun e => ?_, fun e => ?_, fun e => ?_, fun e => ?_, fun e => ?_, fun e => ?_, fun e => ?_, fun e => ?_⟩
  · rcases e with e | e <;> subst e <;> rw [hops (by decide +kernel)]
    · show 1 ≤ ((if _ then _ else _) ++ (atomsW "atom" r).map _).length
      rw [List.length_append, List.length_map]
      unfold atomsW
      rw [if_pos rfl]
      show 1 ≤ _ + 1
      omega
    · have ea : atomsW "call" r = arg 0 r :: tl (arg 1 r) := by unfold atomsW; rw [if_neg (by decide +kernel), if_pos rfl]
      show 1 ≤ ((if _ then _ else _) ++ (atomsW "call" r).map _).length
      rw [List.length_append, List.length_map, ea, List.length_cons]
      omega
  · subst e
    have := (hao.2.1 (.inr (.inl rfl))).1
    omega
  · subst e
    have h3 := hmk.2.1 rfl
    refine ⟨by omega, ?_⟩
    have ea : atomsW "prim" r = r.drop 1 := by unfold atomsW; rw [if_neg (by decide +kernel), if_neg (by decide +kernel), if_neg (by decide +kernel), if_pos rfl]
    rw [hops (by decide +kernel)]
    show 2 ≤ ((if _ then _ else _) ++ (atomsW "prim" r).map _).length
    rw [List.length_append, List.length_map, ea, List.length_drop]
    omega
  · subst e
    rw [hc, inner_len hio (by decide +kernel) (by decide +kernel), pw_let]
    unfold gLet
    rw [List.length_append]
    exact Nat.le_add_left 1 _
  · subst e
    have hf := hio.2 (by decide +kernel)
    rw [fw_seq] at hf
    have := of_decide_eq_true (fand hf).1
    rw [hc, inner_len hio (by decide +kernel) (by decide +kernel), pw_seq, List.length_drop]
    omega
  · subst e
    have hf := hio.2 (by decide +kernel)
    rw [fw_case] at hf
    obtain ⟨h1, h4⟩ := fand hf
    obtain ⟨h1, h3⟩ := fand h1
    obtain ⟨h1, h2⟩ := fand h1
    obtain ⟨x, y, d, rfl⟩ := len3 (of_decide_eq_true h1)
    obtain ⟨rows, er, hrows⟩ := rows_are (show areRows 3 y = true from h2)
    subst er
    refine ⟨x, d, rows, rfl, fun q hq => ?_, ?_⟩
    · obtain ⟨m, rfl, hm⟩ := hrows q hq
      obtain ⟨t, n, b, rfl⟩ := len3 hm
      have h5 := List.all_eq_true.mp h4 _ hq
      have h6 : areNames n = true := (fand h5).2
      cases n with
      | tup ns => exact ⟨t, b, ns, rfl⟩
      | int i => cases h6
      | bl i => cases h6
      | non => cases h6
      | str i => cases h6
      | lst i => cases h6
    · rw [hc, inner_len hio (by decide +kernel) (by decide +kernel), pw_case]
      show (_ :: (rows.map lastD ++ dfltP d)).length = _
      have h9 := dflt_n (show isDflt d = true from h3)
      rw [List.length_cons, List.length_append, List.length_map, h9]
      omega
  · subst e
    have hf := hio.2 (by decide +kernel)
    rw [fw_pick] at hf
    obtain ⟨h1, h4⟩ := fand hf
    obtain ⟨h1, h3⟩ := fand h1
    obtain ⟨h1, h2⟩ := fand h1
    obtain ⟨x, y, d, rfl⟩ := len3 (of_decide_eq_true h1)
    obtain ⟨rows, er, hrows⟩ := rows_are (show areRows 2 y = true from h2)
    subst er
    refine ⟨x, d, rows, rfl, fun q hq => ?_, ?_⟩
    · obtain ⟨m, rfl, hm⟩ := hrows q hq
      obtain ⟨t, b, rfl⟩ := len2 hm
      exact ⟨t, b, rfl⟩
    · rw [hc, inner_len hio (by decide +kernel) (by decide +kernel), pw_pick]
      show (_ :: (rows.map lastD ++ dfltP d)).length = _
      have h9 := dflt_n (show isDflt d = true from h3)
      rw [List.length_cons, List.length_append, List.length_map, h9]
      omega
  · subst e
    have hf := hio.2 (by decide +kernel)
    rw [fw_note] at hf
    have := of_decide_eq_true (fand hf).1
    rw [hc, inner_len hio (by decide +kernel) (by decide +kernel), pw_note]
    exact ⟨by omega, Nat.le_refl _⟩
  · subst e
    rw [hc]
    unfold innerW
    rw [if_pos rfl]
    exact Nat.le_refl _
  · subst e
    rw [hops (by decide +kernel)]
    have hstr := hmk.2.2 rfl
    unfold opsD
    rw [if_pos rfl]
    cases e : arg 0 r with
    | str n => exact ⟨_, _, _, rfl⟩
    | int i => rw [e] at hstr; cases hstr
    | bl b => rw [e] at hstr; cases hstr
    | non => rw [e] at hstr; cases hstr
    | tup l => rw [e] at hstr; cases hstr
    | lst l => rw [e] at hstr; cases hstr
def tw : List Tsk → Nat
  | [] => 0
  | .fresh k _ :: l => 2 * k.sz + tw l
  | .ready _ _ _ :: l => 1 + tw l
theorem tw_len : ∀ l : List Tsk, l.length ≤ tw l
  | [] => Nat.le_refl _
  | .fresh k _ :: l => by
    have h1 := tw_len l
    have h2 := sz_pos k
    show l.length + 1 ≤ 2 * k.sz + tw l
    omega
  | .ready _ _ _ :: l => by
    have h1 := tw_len l
    show l.length + 1 ≤ 1 + tw l
    omega
theorem tw_map (σ : Sc) (m : List Tsk) : ∀ l : List (List Str × Dd), tw (l.map (fun q => Tsk.fresh q.2 (σ.ext q.1)) ++ m) = 2 * Dd.szs (l.map (·.2)) + tw m
  | [] => (Nat.zero_add _).symm
  | q :: l => by
    show 2 * q.2.sz + tw (l.map _ ++ m) = 2 * (q.2.sz + Dd.szs (l.map (·.2))) + tw m
    rw [tw_map σ m l]
    omega
theorem TAts.keepM {td da : Addr} {U : List Str} {H H' : Hp} {σ : Sc} (k : ∀ b kvs, H b = some (.dK kvs) → H' b = some (.dK kvs)) (f : Fr F0 H H') : ∀ {l : List (List Str × Dd)} {xs : List V}, TAts td da U H (l.map fun q => Tsk.fresh q.2 (σ.ext q.1)) xs → TAts td da U H' (l.map fun q => Tsk.fresh q.2 (σ.ext q.1)) xs
  | [], _, h => h
  | q :: l, _, ⟨x, ys, e, ⟨tt, vk, p, D, e2, h1, h2, ⟨kvs, h3, h4, h5⟩, h6, h7⟩, hs⟩ => ⟨x, ys, e, ⟨tt, vk, p, D, e2, f.1 _ _ h1, h2.keep f, ⟨kvs, f.1 _ _ h3, k _ _ h4, h5⟩, h6, h7⟩, TAts.keepM k f hs⟩
theorem run_pos {ix : Str → Option Int} {ts : List Tsk} {dn : List Dd} {x : Sum Str Dd} {n : Nat} {t : Tsk} (h : Run ix (t :: ts) dn x n) : 1 ≤ n := by
  cases h <;> omega
structure TxtPu (P : Program) (w : World) (K : PySem.W.Frag) (mg : Str → Option Value) (base : Heap) (aM : Addr) (es : Array DictEntry) (n : Nat) (sM : Addr → Option Sp) : Prop where
  ztuple : mg "tuple" = none
  zlen : mg "len" = none
  kM : KDict K w aM es n
  gMAKERS : ∃ u, mg "MAKERS" = some u ∧ RelV (.ref aM) u
  mkIn : ∀ z ∈ thingWords, ∃ f sp, PySem.W.nsIn K aM z = some (some (.ref f)) ∧ sM f = some sp ∧ ∀ vs H Q E, spMk z vs H Q E → sp vs H Q E
  heldM : ∀ f sp, sM f = some sp → Held P w K mg base 1 f sp
section
variable {P : Program} {w : World} {K : PySem.W.Frag} {mg : Str → Option Value} {base : Heap} {aM : Addr} {es : Array DictEntry} {n : Nat} {sM : Addr → Option Sp} {CU : Addr}
abbrev sPut : Stmt := topS 34
theorem scPut : FnScope ["thing", "operands", "inner", "put_together"] ["thing", "operands", "inner"] (defScope sPut) := ⟨rfl, rfl, rfl, by decide +kernel, rfl, by decide +kernel, by decide +kernel⟩
def spPut : Sp := fun vs H Q _ => ∃ (v : V) (z : Str) (r ops is : List Dd) (L il : Addr) (os cs : List V), vs = [v, .ref L, .ref il] ∧ (Dd.tup (.str z :: r)).At F0 H v ∧ z ∈ thingWords ∧ (Dd.tup (.str z :: r)).sz ≤ 1000000 ∧ H L = some (.lst os) ∧ H il = some (.lst cs) ∧ Dd.Ats F0 H ops os ∧ Dd.Ats F0 H is cs ∧ ops.length ≤ 1000000 ∧ is.length ≤ 1000000 ∧ MkReq z r ops is ∧
  ∀ (v' : V) (H' : Hp), Same H H' → (putW z r ops is).At F0 H' v' → Q v' H'
theorem c_put {f : Addr} {fd : FuncData} (T : TxtPu P w K mg base aM es n sM) (F : Fun K "_put_together" "_put_together" sPut f fd) (b : Binds K fd ["thing", "operands", "inner"] []) (hm : mg "_put_together" = some (.ref f)) : C8.Cal P w K mg base 2 "_put_together" spPut [] := by
  refine cal_of F hm b scPut (fun vs H Q E h => ?_) (fun cdv A outer s H vs Q E hr h => ?_)
  · obtain ⟨v, z, r, ops, is, L, il, os, cs, rfl, _⟩ := h
    rfl
  obtain ⟨v, z, r, ops, is, L, il, os, cs, rfl, hat, hz, hsz, hL, hil, hos, hcs, hol, hcl, hreq, q⟩ := h
  refine ⟨_, (pss_cons (ps_set (i := 3) scPut.nd rfl (Or.inl rfl) (pe_ix (ix_kd T.kM) (C8.pe_gc rfl T.gMAKERS) (pe_ix ix_tup (pv 0) pe_int (fun _ _ => rfl)) (fun _ _ => rfl)))
    (pss_one (ps_ret (pe_callA (i := 3) T.heldM (hr.mono (by decide)) rfl (Or.inl rfl) (pa_cons (pv 0) (pa_cons (pe_callTy call_tuple_of rfl T.ztuple boot_tuple (pa_cons (pv 1) pa_nil)) (pa_cons (pv 2) pa_nil))))))), ?_⟩
  have hat0 := hat
  obtain ⟨a, ys, rfl, ha, hys, hyl, hzl⟩ := head_at hat
  obtain ⟨fz, sp, hns, hsM, himp⟩ := T.mkIn z hz
  refine ⟨_, rfl, a, _, 0, _, rfl, rfl, SqT.of ha, at0 _ _, z, .ref fz, .ref fz, rfl, rfl, hns, rfl, ?_⟩
  refine ⟨fz, sp, rfl, hsM, _, rfl, _, rfl, L, os, rfl, .inl ⟨SqL.of hL, fun u hu => ?_⟩⟩
  have s1 := same_new hu (.tup os)
  refine ⟨_, rfl, himp _ _ _ _ ⟨.ref a, r, ops, is, u, il, os, cs, rfl, hat0.keep (fr_same s1), hsz, upd_same, s1 _ _ hil, hos.keep (fr_same s1), hcs.keep (fr_same s1), hol, hcl, hreq, fun v' H' s2 h => q v' H' (sameT s1 s2) h⟩⟩
abbrev sBody : Stmt := topS 29
theorem scBody : FnScope ["body", "params", "indexes", "done", "todo", "thing", "scope", "operands", "inner", "inner_scope", "start", "names", "part"] ["body", "params", "indexes"] (defScope sBody) := ⟨rfl, rfl, rfl, by decide +kernel, rfl, by decide +kernel, by decide +kernel⟩
def spBodyC (CU : Addr) : Sp := fun vs H Q E => ∃ (v : V) (k : Dd) (pa id : Addr) (ps : List Str) (kws : List (Key × V)) (ix : Str → Option Int) (U U' : List Str), vs = [v, .ref pa, .ref id] ∧ k.At F0 H v ∧ gl U k ∧ k.sz ≤ 100000 ∧ H pa = some (.tup (ps.map V.str)) ∧ (∀ s ∈ ps, s ∈ U) ∧ U.length ≤ 1000000 ∧ ps.length ≤ 1000000 ∧ H id = some (.dK kws) ∧ SlAt kws ix U' ∧
  (∀ z n, Cb ix k (Sc.beg ps) z n → ∀ H' d, Same H H' → H' d = none → E (.ref CU) (some d) (upd H' d (.xd (nameF z)))) ∧ (∀ c n, Cd ix k (Sc.beg ps) c n → ∀ v' H', Same H H' → c.At F0 H' v' → Q v' H')
theorem c_body {f : Addr} {fd : FuncData} (T : TxtPu P w K mg base aM es n sM) (c_beginning : C8.Cal P w K mg base 2 "_beginning" (spBeg true) []) (c_extended : C8.Cal P w K mg base 1 "_extended" (spExt true) []) (cinner_of : C8.Cal P w K mg base 5 "inner_of" spInnerOf []) (c_operands : CalX P w K mg base 7 "_operands" (spOperands CU)) (c_put_together : C8.Cal P w K mg base 2 "_put_together" spPut []) (F : Fun K "_body_code" "_body_code" sBody f fd) (b : Binds K fd ["body", "params", "indexes"] []) (hm : mg "_body_code" = some (.ref f)) : CalX P w K mg base 8 "_body_code" (spBodyC CU) := by
  refine calX_of F hm b scBody (fun vs H Q E h => ?_) (fun cdv A outer s H vs Q E hr h => ?_)
  · obtain ⟨v, k, pa, id, ps, kws, ix, U, U', rfl, _⟩ := h
    rfl
  obtain ⟨v, k, pa, id, ps, kws, ix, U, U', rfl, hat, hgl, hsz, hpa, hpU, hUl, hpl, hid, hix, qe, q⟩ := h
  have hu := hu_of hr
  have hbig := big
  have hline := line9
  obtain ⟨N, hN, hex⟩ := cd_ex (ix := ix) k.sz k (Sc.beg ps) (Nat.le_refl _) hgl (Sc.beg_ok ps)
  obtain ⟨res, hrun0, hE, hQ⟩ : ∃ res : Sum Str Dd, Run ix [.fresh k (Sc.beg ps)] [] res N ∧ (∀ z, res = .inl z → ∀ H' d, Same H H' → H' d = none → E (.ref CU) (some d) (upd H' d (.xd (nameF z)))) ∧ (∀ c, res = .inr c → ∀ v' H', Same H H' → c.At F0 H' v' → Q v' H') := by
    rcases hex with ⟨c, hc⟩ | ⟨z, hz⟩
    · exact ⟨.inr c, run_one' hc, fun _ e => (by cases e), fun c' e => (by cases e; exact q c N hc)⟩
    · exact ⟨.inl z, run_bad hz, fun z' e => (by cases e; exact qe z N hz), fun _ e => (by cases e)⟩
  clear q qe hex
  refine ⟨_, (pss_cons (ps_set (i := 3) scBody.nd rfl (Or.inl rfl) (pe_lst pa_nil))
    (pss_cons (ps_set (i := 4) scBody.nd rfl (Or.inl rfl) (pe_lst (pa_cons (pe_tup (pa_cons (pv 0) (pa_cons (C8.pe_c c_beginning hr (by decide) rfl (pa_cons (pv 1) pa_nil)) (pa_cons pe_non pa_nil)))) pa_nil)))
    (pss_cons (ps_while (passes_of rfl) (pt_truth (pv 4) (fun _ => rfl))
      (pss_cons (ps_asg (pe_bm0 PySem.F.plainAttrs_list PySem.F.slot_list_pop PySem.F.type_list_pop mt_pop (pv 4)) (pg_tup rfl (pgs_cons (pg_name (i := 5) scBody.nd rfl (Or.inl rfl)) (pgs_cons (pg_name (i := 6) scBody.nd rfl (Or.inl rfl)) (pgs_cons (pg_name (i := 7) scBody.nd rfl (Or.inl rfl)) pgs_nil)))))
    (pss_cons (ps_set (i := 8) scBody.nd rfl (Or.inl rfl) (C8.pe_c cinner_of hr (by decide) rfl (pa_cons (pv 5) pa_nil)))
    (pss_one (ps_if (pt_cmpR op_isN (pv 7) pe_non (nomark _))
      (pss_cons (ps_asg (pe_cx c_operands hr (by decide) rfl (takes_of rfl rfl rfl rfl) (pa_cons (pv 5) (pa_cons (pv 6) (pa_cons (pv 2) pa_nil)))) (pg_tup rfl (pgs_cons (pg_name (i := 7) scBody.nd rfl (Or.inl rfl)) (pgs_cons (pg_name (i := 9) scBody.nd rfl (Or.inr rfl)) pgs_nil))))
    (pss_cons (ps_expr (pe_bm PySem.F.plainAttrs_list PySem.F.slot_list_append PySem.F.type_list_append mt_append (pv 4) (pa_cons (pe_tup (pa_cons (pv 5) (pa_cons (pv 6) (pa_cons (pv 7) pa_nil)))) pa_nil)))
    (pss_one (ps_expr (pe_bm PySem.F.plainAttrs_list PySem.F.slot_list_extend PySem.F.type_list_extend mt_extend (pv 4) (pa_cons (pe_lc (own := [("names", 11), ("part", 12)]) (g := gTup K 2 (gCons (gName 11) (gCons (gName 12) (gNil)))) (tt := tYes) rfl scBody.nd (pi_list (pe_revL (pv 8))) (blkOk_by (own := [("names", 11), ("part", 12)]) (N := ["body", "params", "indexes", "done", "todo", "thing", "scope", "operands", "inner", "inner_scope", "start", "names", "part"]) (sc := defScope sBody) (by decide +kernel)) (fun _ _ _ _ _ => (pg_tup rfl (pgs_cons (pg_name (i := 11) scBody.nd rfl (Or.inl rfl)) (pgs_cons (pg_name (i := 12) scBody.nd rfl (Or.inl rfl)) pgs_nil)))) (fun _ _ _ _ _ => pts_nil) (fun _ _ _ _ _ => (pe_tup (pa_cons (pv 12) (pa_cons (C8.pe_c c_extended hr (by decide) rfl (pa_cons (pv 9) (pa_cons (pv 11) pa_nil))) (pa_cons pe_non pa_nil)))))) pa_nil))))))
      (pss_cons (ps_set (i := 10) scBody.nd rfl (Or.inl rfl) (pe_op op_sub (pe_callB call_len_seq rfl T.zlen PySem.boot_len (pa_cons (pv 3) pa_nil)) (pe_callB call_len_seq rfl T.zlen PySem.boot_len (pa_cons (pv 8) pa_nil))))
    (pss_one (ps_tail (pv 3) (pv 10) (pe_lst (pa_cons (C8.pe_c c_put_together hr (by decide) rfl (pa_cons (pv 5) (pa_cons (pv 7) (pa_cons (pe_slice sl_list (pv 3) (po_some (pv 10)) po_none) pa_nil)))) pa_nil))))))))))
    (pss_one (ps_ret (pe_ix ix_list (pv 3) pe_int (fun _ _ => rfl))))))), ?_⟩
  refine ⟨by show 0 ≤ sizeLine; decide, fun da hda => ?_⟩
  have s1 := same_new hda (.lst [])
  have e1 : upd H da (.lst []) da = some (.lst []) := upd_same
  generalize upd H da (.lst []) = H1 at s1 e1 ⊢
  refine ⟨_, rfl, _, rfl, pa, U, ps, rfl, s1 _ _ hpa, hpU, hUl, fun p0 D0 kv0 H2 s2 hp0 hD0 ep0 eD0 hs0 => ?_⟩
  refine ⟨by show 3 ≤ sizeLine; decide, fun tt htt => ?_⟩
  have s3 := same_new htt (.tup [v, .ref p0, .non])
  have s13 := sameT s1 (sameT s2 s3)
  have e3 : upd H2 tt (.tup [v, .ref p0, .non]) tt = some (.tup [v, .ref p0, .non]) := upd_same
  have ep3 := s3 _ _ ep0
  have eD3 := s3 _ _ eD0
  have ed3 := sameT s2 s3 _ _ e1
  generalize upd H2 tt (.tup [v, .ref p0, .non]) = H3 at s3 s13 e3 ep3 eD3 ed3 ⊢
  refine ⟨by show 1 ≤ sizeLine; decide, fun td htd => ?_⟩
  have htdH : H td = none := free_of s13 htd
  have ndt : da ≠ td := fun e => by rw [e, htd] at ed3; cases ed3
  have nDt : D0 ≠ td := fun e => by rw [e, htd] at eD3; cases eD3
  have nDd : D0 ≠ da := fun e => by rw [e, ed3] at eD3; cases eD3
  have s4 := same_new htd (.lst [.ref tt])
  have s14 := sameT s13 s4
  have ft0 : Fr F0 H (upd H3 td (.lst [.ref tt])) := fr_same s14
  refine ⟨fun n' st G => ∃ (v5 v6 v7 v8 v9 v10 v11 v12 : Option V) (ts : List Tsk) (dn : List Dd) (xs ds : List V), st = [some v, some (.ref pa), some (.ref id), some (.ref da), some (.ref td), v5, v6, v7, v8, v9, v10, v11, v12] ∧ Same H G ∧ G da = some (.lst ds) ∧ G td = some (.lst xs) ∧ Dd.Ats F0 G dn ds ∧ TAts td da U G ts.reverse xs ∧ (∀ t ∈ ts, tkG ix U t) ∧ Run ix ts dn res n' ∧ dn.length + n' ≤ N ∧ tw ts ≤ 200000,
    ⟨N, _, _, _, _, _, _, _, _, [.fresh k (Sc.beg ps)], [], [.ref tt], [], rfl, s14, s4 _ _ ed3, upd_same, rfl, TAts.one ⟨tt, v, p0, D0, rfl, s4 _ _ e3, hat.keep ft0, ⟨kv0, s4 _ _ ep3, s4 _ _ eD3, hs0⟩, nDt, nDd⟩, fun t ht => by rw [List.mem_singleton.mp ht]; exact ⟨hgl, Sc.beg_ok ps, hsz⟩, hrun0, by show 0 + N ≤ N; omega, by show 2 * k.sz + 0 ≤ _; omega⟩, ?_⟩
  rintro n' st G ⟨v5, v6, v7, v8, v9, v10, v11, v12, ts, dn, xs, ds, rfl, sG, hdG, htG, hds, hxs, hgood, hrun, hlen, htl⟩
  refine ⟨_, rfl, _, .inl ⟨_, SqL.of htG, rfl⟩, ?_⟩
  rcases ts with _ | ⟨t, ts1⟩
  · cases (show xs = [] from hxs)
    refine iteF ?_
    cases hrun with
    | @nil c =>
    obtain ⟨x, xs2, rfl, hx, h0⟩ := hds
    cases (show xs2 = [] from h0)
    exact ⟨_, rfl, da, _, 0, _, rfl, rfl, SqL.of hdG, at0 _ _, hQ c rfl _ G sG hx⟩
  rw [List.reverse_cons] at hxs
  obtain ⟨xs', y, rfl, hxs', hy⟩ := hxs.snoc
  have hxl := hxs'.len
  rw [List.length_reverse] at hxl
  have ne : (!(xs' ++ [y]).isEmpty) = true := by cases xs' <;> rfl
  rw [ne]
  refine iteT ?_
  refine ⟨fun st' G' => ∃ (m : Nat) (v5 v6 v7 v8 v9 v10 v11 v12 : Option V) (ts : List Tsk) (dn : List Dd) (xs ds : List V), m < n' ∧ st' = [some v, some (.ref pa), some (.ref id), some (.ref da), some (.ref td), v5, v6, v7, v8, v9, v10, v11, v12] ∧ Same H G' ∧ G' da = some (.lst ds) ∧ G' td = some (.lst xs) ∧ Dd.Ats F0 G' dn ds ∧ TAts td da U G' ts.reverse xs ∧ (∀ t ∈ ts, tkG ix U t) ∧ Run ix ts dn res m ∧ dn.length + m ≤ N ∧ tw ts ≤ 200000,
    fun st' G' ⟨m, v5, v6, v7, v8, v9, v10, v11, v12, ts, dn, xs, ds, lt, rest⟩ => ⟨m, lt, v5, v6, v7, v8, v9, v10, v11, v12, ts, dn, xs, ds, rest⟩, ?_⟩
  have hgt := hgood t (List.mem_cons_self ..)
  have hgM : ∀ t' ∈ ts1, tkG ix U t' := fun t' h => hgood t' (List.mem_cons_of_mem _ h)
  have f4 : Fr F0 G (upd G td (.lst xs')) := fr_list htG fun z => z
  have sG4 : Same H (upd G td (.lst xs')) := same_upd htdH sG _
  have h4 : upd G td (.lst xs') td = some (.lst xs') := upd_same
  have hd4 : upd G td (.lst xs') da = some (.lst ds) := by rw [upd_ne ndt]; exact hdG
  have k4 : KeepT td da G (upd G td (.lst xs')) := KeepT.td _
  have hdl := ats_len hds
  cases t with
  | fresh kk σ =>
    obtain ⟨tk, vk, p, D, rfl, htk, hvk, ⟨kvs, hp, hD, hsl⟩, nD1, nD2⟩ := hy
    obtain ⟨hgk, hok, hkz⟩ := hgt
    have hgk0 := hgk
    obtain ⟨z, r, rfl, hao, hio, hatm, hmk, hin⟩ := gl_parts hgk
    have hq1 : upd G td (.lst (xs' ++ [V.ref tk]).dropLast) tk = some (.tup [vk, .ref p, .non]) := by
      rw [List.dropLast_concat]
      exact f4.1 _ _ htk
    refine ⟨_, rfl, .inl ⟨rfl, _, SqL.of htG⟩, td, _, .ref tk, rfl, rfl, htG, by simp, tk, _, rfl, SqT.of hq1, rfl, _, _, rfl, _, _, rfl, _, _, rfl, rfl, ?_⟩
    rw [List.dropLast_concat]
    replace hvk := hvk.keep f4
    replace hp := f4.1 _ _ hp
    replace hD := k4 _ _ nD1 nD2 hD
    replace hxs' := hxs'.keep k4 f4
    replace hds := hds.keep f4
    generalize upd G td (.lst xs') = G4 at sG4 h4 hd4 hvk hp hD hxs' hds ⊢
    clear k4 f4 htk hq1
    refine ⟨_, rfl, F0, vk, z, r, rfl, hvk, hio, by omega, fun L1 zs G5 s5 hL1 e5 hzs => ?_⟩
    refine ⟨_, rfl, rfl, _, rfl, ?_⟩
    show if decide (V.non = V.non) = true then _ else _
    rw [decide_eq_true rfl]
    refine iteT ?_
    have h5 := s5 _ _ h4
    have hd5 := s5 _ _ hd4
    have sG5 := sameT sG4 s5
    have hins := inner_sz hio
    have hzl := ats_len hzs
    rw [List.length_map] at hzl
    have hil0 := szs_len ((innerW z r).map (·.2))
    rw [List.length_map] at hil0
    have htw : 2 * (Dd.tup (.str z :: r)).sz + tw ts1 ≤ 200000 := htl
    have htl1 := tw_len ts1
    have nL1 : L1 ≠ td := fun e => by rw [e, h4] at hL1; cases hL1
    refine ⟨_, rfl, _, rfl, _, rfl, F0, vk, z, r, p, D, id, kws, σ, ix, U, U', rfl, hvk.keep (fr_same s5), hgk0, hkz, ⟨kvs, s5 _ _ hp, s5 _ _ hD, hsl⟩, hok, hUl, sG5 _ _ hid, hix, fun zz hz H' d s' hd => ?_, fun hb ops σ' t L p' D' os G6 hops hol s6 ht hL hDD et eL hos hsc => ?_⟩
    · refine hE zz ?_ H' d (sameT sG5 s') hd
      cases hrun with
      | bad h => rw [hz] at h; cases h; rfl
      | node h _ _ => rw [hz] at h; cases h
    obtain ⟨kvs', hp6, hD6, hsl6⟩ := hsc
    have nLt : L ≠ td := fun e => by rw [e, h5] at hL; cases hL
    have nLd : L ≠ da := fun e => by rw [e, hd5] at hL; cases hL
    have h6 := s6 _ _ h5
    have sG6 := sameT sG5 s6
    refine ⟨t, _, rfl, SqT.of et, rfl, _, _, rfl, _, _, rfl, rfl, ?_⟩
    refine ⟨_, rfl, .inl ⟨rfl, _, SqL.of h6⟩, _, rfl, _, rfl, _, rfl, by show 3 ≤ sizeLine; decide, fun t6 ht6 => ?_⟩
    have s7 := same_new ht6 (.tup [vk, .ref p, .ref L])
    have e7 : upd G6 t6 (.tup [vk, .ref p, .ref L]) t6 = some (.tup [vk, .ref p, .ref L]) := upd_same
    have h7 := s7 _ _ h6
    have s47 := sameT s5 (sameT s6 s7)
    have sG7 := sameT sG4 s47
    have s67 := sameT s6 s7
    generalize upd G6 t6 (.tup [vk, .ref p, .ref L]) = G7 at s7 e7 h7 s47 sG7 s67 ⊢
    refine ⟨td, _, .ref t6, rfl, rfl, h7, by omega, ?_⟩
    have f8 : Fr F0 G7 (upd G7 td (.lst (xs' ++ [.ref t6]))) := fr_list h7 fun z => z
    have k8 : KeepT td da G7 (upd G7 td (.lst (xs' ++ [.ref t6]))) := KeepT.td _
    have sG8 : Same H (upd G7 td (.lst (xs' ++ [.ref t6]))) := same_upd htdH sG7 _
    have h8 : upd G7 td (.lst (xs' ++ [.ref t6])) td = some (.lst (xs' ++ [.ref t6])) := upd_same
    have hd8 : upd G7 td (.lst (xs' ++ [.ref t6])) da = some (.lst ds) := by rw [upd_ne ndt]; exact s47 _ _ hd4
    have hL8 : upd G7 td (.lst (xs' ++ [.ref t6])) L1 = some (.lst zs) := by rw [upd_ne nL1]; exact s67 _ _ e5
    have nD6 : D' ≠ td := fun e => by rw [e, h6] at hD6; cases hD6
    have hD8 : upd G7 td (.lst (xs' ++ [.ref t6])) D' = some (.dK kvs') := by rw [upd_ne nD6]; exact s7 _ _ hD6
    have hp8 := f8.1 _ _ (s7 _ _ hp6)
    generalize upd G7 td (.lst (xs' ++ [.ref t6])) = G8 at f8 k8 sG8 h8 hd8 hL8 hD8 hp8 ⊢
    refine ⟨_, rfl, .inl ⟨rfl, _, SqL.of h8⟩, ?_⟩
    refine ⟨_, rfl, L1, zs, rfl, SqL.of hL8, fun pL hpL => ?_⟩
    have s9 := same_new hpL (.lst zs.reverse)
    have e9 : upd G8 pL (.lst zs.reverse) pL = some (.lst zs.reverse) := upd_same
    generalize upd G8 pL (.lst zs.reverse) = G9 at s9 e9 ⊢
    refine ⟨pL, rfl, ⟨_, SqL.of e9⟩, fun D2 hD2 => ?_⟩
    have hpl := ats_rev (hzs.keep ((fr_same (B := F0) s67).trans (f8.trans (fr_same s9))))
    rw [← List.map_reverse] at hpl
    have k79 := k8.trans (KeepT.of s9)
    have f49 : Fr F0 G4 G9 := (fr_same s47).trans (f8.trans (fr_same s9))
    have nt9 : G9 td = some (.lst (xs' ++ [.ref t6])) := s9 _ _ h8
    have nd9 := s9 _ _ hd8
    refine lc_list (a := pL) (xs := zs.reverse) (fun i G' => Same G9 G' ∧ ∃ us : List V, G' D2 = some (.lst us) ∧ TAts td da U G' (((innerW z r).reverse.take i).map fun q => Tsk.fresh q.2 (σ'.ext q.1)) us) ⟨same_new hD2 _, [], upd_same, by rw [List.take_zero]; rfl⟩ (fun i G' _ ⟨h, _⟩ => SqL.of (h _ _ e9)) ?_ ?_
    · rintro i x G' hxi ⟨s10, us, eD, hT⟩
      obtain ⟨pk, hpk, hpka⟩ := ats_get hpl hxi
      rw [List.getElem?_map] at hpk
      obtain ⟨q5, hq5, rfl⟩ := Option.map_eq_some_iff.mp hpk
      have hqm : q5 ∈ innerW z r := List.mem_reverse.mp (List.mem_of_getElem? hq5)
      have hil5 := (List.getElem?_eq_some_iff.mp hq5).1
      rw [List.length_reverse] at hil5
      obtain ⟨t2, xn, pp, rfl, et2, hn2, hp2⟩ := pair_at (m := [nameT q5.1, q5.2]) (hpka.keep (fr_same s10)) rfl
      obtain ⟨u5, rfl, hu5, hu6⟩ := nameT_at hn2
      have hul := hT.len
      rw [List.length_map, List.length_take] at hul
      refine ⟨t2, _, rfl, SqT.of et2, rfl, _, _, rfl, _, _, rfl, rfl, rfl, ?_⟩
      refine tYes_if ?_
      refine ⟨_, rfl, _, rfl, _, rfl, p', D', u5, kvs', σ', U, q5.1, rfl, s10 _ _ (s9 _ _ hp8), s10 _ _ (s9 _ _ hD8), hsl6, hu5, (hin q5 hqm).1, hUl, fun p2 D3 kv2 G10 s11 hp2n hD3n ep2 eD3 hs2 => ?_⟩
      refine ⟨by show 3 ≤ sizeLine; decide, fun t9 ht9 => ?_⟩
      have s12 := same_new ht9 (.tup [pp, .ref p2, .non])
      have s912 := sameT s10 (sameT s11 s12)
      have s112 := sameT s11 s12
      have e12 : upd G10 t9 (.tup [pp, .ref p2, .non]) t9 = some (.tup [pp, .ref p2, .non]) := upd_same
      have ep12 := s12 _ _ ep2
      have eD12 := s12 _ _ eD3
      have eDD := s112 _ _ eD
      have hpp := hp2.keep (fr_same s112)
      have nD3t : D3 ≠ td := fun e => by rw [e, s10 _ _ nt9] at hD3n; cases hD3n
      have nD3d : D3 ≠ da := fun e => by rw [e, s10 _ _ nd9] at hD3n; cases hD3n
      replace hT := hT.keepM (fun b kvs e => s112 _ _ e) (fr_same s112)
      generalize upd G10 t9 (.tup [pp, .ref p2, .non]) = G12 at s12 s912 s112 e12 ep12 eD12 eDD hpp hT ⊢
      refine ⟨us, eDD, by omega, same_upd hD2 s912 _, us ++ [.ref t9], upd_same, ?_⟩
      have f13 : Fr F0 G12 (upd G12 D2 (.lst (us ++ [.ref t9]))) := fr_list eDD fun z => z
      have kd : ∀ b kvs, G12 b = some (.dK kvs) → upd G12 D2 (.lst (us ++ [.ref t9])) b = some (.dK kvs) := fun b kvs e => by rw [upd_ne (fun z => by rw [z, eDD] at e; cases e)]; exact e
      rw [List.take_add_one, hq5, List.map_append]
      exact (hT.keepM kd f13).app (TAts.one ⟨t9, pp, p2, D3, rfl, f13.1 _ _ e12, hpp.keep f13, ⟨kv2, f13.1 _ _ ep12, kd _ _ eD12, hs2⟩, nD3t, nD3d⟩)
    rintro G13 ⟨s13', us, eD, hT⟩
    have hrl : zs.reverse.length = (innerW z r).reverse.length := by rw [List.length_reverse, List.length_reverse, hzl]
    rw [hrl, List.take_length] at hT
    have hul := hT.len
    rw [List.length_map, List.length_reverse] at hul
    have h13 := s13' _ _ nt9
    refine ⟨td, D2, _, us, rfl, rfl, h13, eD, by rw [List.length_append]; show _ + 1 + _ ≤ _; omega, ?_⟩
    have f14 : Fr F0 G13 (upd G13 td (.lst ((xs' ++ [.ref t6]) ++ us))) := fr_list h13 fun z => z
    have k14 : KeepT td da G13 (upd G13 td (.lst ((xs' ++ [.ref t6]) ++ us))) := KeepT.td _
    have s813 := sameT s9 s13'
    have fA : Fr F0 G4 (upd G13 td (.lst ((xs' ++ [.ref t6]) ++ us))) := f49.trans ((fr_same s13').trans f14)
    have kA : KeepT td da G4 (upd G13 td (.lst ((xs' ++ [.ref t6]) ++ us))) := (KeepT.of s47).trans (k8.trans ((KeepT.of s813).trans k14))
    cases hrun with
    | bad h => rw [hb] at h; cases h
    | @node _ _ _ σ2 ops2 _ _ _ n hb2 hops2 hr2 =>
    obtain ⟨eo, eσ⟩ := ops_one hops hops2
    subst eo eσ
    refine ⟨n, _, _, _, _, _, _, _, _, (innerW z r).map (fun q => Tsk.fresh q.2 (σ'.ext q.1)) ++ .ready z r ops :: ts1, dn, _, ds, Nat.lt_succ_self n, rfl, same_upd htdH (sameT sG8 s813) _, by rw [upd_ne ndt]; exact s813 _ _ hd8, upd_same, hds.keep fA, ?_, fun t' ht' => ?_, hr2, by omega, ?_⟩
    · have er : ((innerW z r).map (fun q => Tsk.fresh q.2 (σ'.ext q.1)) ++ .ready z r ops :: ts1).reverse = (ts1.reverse ++ [.ready z r ops]) ++ (innerW z r).reverse.map fun q => Tsk.fresh q.2 (σ'.ext q.1) := by
        rw [List.reverse_append, List.reverse_cons, List.map_reverse]
      rw [er]
      have k713 := k8.trans (KeepT.of s813)
      have fB : Fr F0 G7 (upd G13 td (.lst ((xs' ++ [.ref t6]) ++ us))) := f8.trans ((fr_same s813).trans f14)
      have kB := k713.trans k14
      have fC : Fr F0 G6 (upd G13 td (.lst ((xs' ++ [.ref t6]) ++ us))) := (fr_same s7).trans fB
      refine ((hxs'.keep kA fA).app (TAts.one (t := .ready z r ops) (x := .ref t6) ⟨t6, vk, p, L, os, rfl, fB.1 _ _ e7, hvk.keep fA, kB _ _ nLt nLd (s7 _ _ eL), hos.keep fC, nLt, nLd⟩)).app (hT.keepM (fun b kvs e => ?_) f14)
      rw [upd_ne (fun z => by rw [z, h13] at e; cases e)]
      exact e
    · rcases List.mem_append.mp ht' with h | h
      · obtain ⟨q5, hq5, rfl⟩ := List.mem_map.mp h
        have hs5 := szs_mem (List.mem_map.mpr ⟨q5, hq5, rfl⟩ : q5.2 ∈ (innerW z r).map (·.2))
        refine ⟨(hin q5 hq5).2, ?_, by omega⟩
        refine Sc.Ok.ext ?_ _
        cases hops with
        | later _ => exact Sc.beg_ok _
        | other _ => exact hok
      · rcases List.mem_cons.mp h with h | h
        · rw [h]
          exact ⟨hgk0, hkz, hol, σ, σ', hops, hb⟩
        · exact hgM t' h
    · rw [tw_map]
      show _ + (1 + tw ts1) ≤ _
      omega
  | ready z r ops =>
    obtain ⟨tk, vk, p, L, os, rfl, htk, hvk, hL, hos, nLt, nLd⟩ := hy
    obtain ⟨hgk, hkz, hol, σ, σ', hops, hb⟩ := hgt
    obtain ⟨z', r', ee, hao, hio, hatm, hmk, hin⟩ := gl_parts hgk
    have ee := Dd.tup.inj ee
    obtain ⟨ee1, ee2⟩ := List.cons.inj ee
    cases Dd.str.inj ee1
    cases ee2
    have hq1 : upd G td (.lst (xs' ++ [V.ref tk]).dropLast) tk = some (.tup [vk, .ref p, .ref L]) := by
      rw [List.dropLast_concat]
      exact f4.1 _ _ htk
    refine ⟨_, rfl, .inl ⟨rfl, _, SqL.of htG⟩, td, _, .ref tk, rfl, rfl, htG, by simp, tk, _, rfl, SqT.of hq1, rfl, _, _, rfl, _, _, rfl, _, _, rfl, rfl, ?_⟩
    rw [List.dropLast_concat]
    replace hvk := hvk.keep f4
    replace hL := k4 _ _ nLt nLd hL
    replace hos := hos.keep f4
    replace hxs' := hxs'.keep k4 f4
    replace hds := hds.keep f4
    generalize upd G td (.lst xs') = G4 at sG4 h4 hd4 hvk hL hos hxs' hds ⊢
    clear k4 f4 htk hq1
    refine ⟨_, rfl, F0, vk, z, r, rfl, hvk, hio, by omega, fun L1 zs G5 s5 hL1 e5 hzs => ?_⟩
    refine ⟨_, rfl, rfl, _, rfl, ?_⟩
    show if decide (V.ref L = V.non) = true then _ else _
    rw [decide_eq_false fun e => by cases e]
    refine iteF ?_
    have hins := inner_sz hio
    have hzl := ats_len hzs
    rw [List.length_map] at hzl
    have hil0 := szs_len ((innerW z r).map (·.2))
    rw [List.length_map] at hil0
    have htw : 1 + tw ts1 ≤ 200000 := htl
    have hN2 : N ≤ 200000 := by omega
    have hd5 := s5 _ _ hd4
    cases hrun with
    | @ready _ _ _ cs _ dn1 _ n1 hcl hr2 =>
    rw [List.length_append] at hlen
    obtain ⟨d1, d2, rfl, hd1, hd2⟩ := ats_split hds
    have hl1 := ats_len hd1
    have hl2 := ats_len hd2
    refine ⟨_, rfl, da, _, rfl, .inl (SqL.of hd5), _, rfl, L1, _, rfl, .inl (SqL.of e5), _, _, rfl, rfl, ?_⟩
    have est : (((d1 ++ d2).length : Nat) : Int) - ((zs.length : Nat) : Int) = ((d1.length : Nat) : Int) := by rw [List.length_append]; omega
    have ecut : cutV (d1 ++ d2) (some ((((d1 ++ d2).length : Nat) : Int) - ((zs.length : Nat) : Int))) none = d2 := by
      rw [est, cut_from _ _ (by rw [List.length_append]; omega), List.drop_left]
    refine ⟨_, rfl, _, rfl, _, rfl, _, rfl, _, rfl, da, _, rfl, SqL.of hd5, fun l1 hl1' => ?_⟩
    rw [ecut]
    have s6 := same_new hl1' (.lst d2)
    have e6 : upd G5 l1 (.lst d2) l1 = some (.lst d2) := upd_same
    have s46 := sameT s5 s6
    generalize upd G5 l1 (.lst d2) = G6 at s6 e6 s46 ⊢
    have f46 := fr_same (B := F0) s46
    refine ⟨vk, z, r, ops, cs, L, l1, os, d2, rfl, hvk.keep f46, hmk.1, by omega, s46 _ _ hL, e6, hos.keep f46, hd2.keep f46, hol, by omega, req_of hgk hops hb hcl, fun v8 G8 s8 a8 => ?_⟩
    refine ⟨by show 1 ≤ sizeLine; decide, fun pq hpq => ?_⟩
    have s9 := same_new hpq (.lst [v8])
    have s49 := sameT s46 (sameT s8 s9)
    have e9 : upd G8 pq (.lst [v8]) pq = some (.lst [v8]) := upd_same
    have a9 := a8.keep (fr_same s9)
    have npd : da ≠ pq := fun e => by rw [← e, s8 _ _ (s6 _ _ hd5)] at hpq; cases hpq
    generalize upd G8 pq (.lst [v8]) = G9 at s9 s49 e9 a9 ⊢
    have hd9 := s49 _ _ hd4
    refine ⟨_, rfl, _, rfl, da, pq, d1 ++ d2, [v8], d1.length, rfl, rfl, congrArg V.int est, hd9, e9, npd, by rw [List.length_append]; omega, by rw [List.length_append]; show _ + 1 ≤ _; omega, ?_⟩
    rw [List.take_left]
    have f9 : Fr F0 G9 (upd G9 da (.lst (d1 ++ [v8]))) := fr_list hd9 fun z => z
    have f49 := (fr_same (B := F0) s49).trans f9
    have k49 : KeepT td da G4 (upd G9 da (.lst (d1 ++ [v8]))) := (KeepT.of s49).trans (KeepT.da _)
    refine ⟨n1, _, _, _, _, _, _, _, _, ts1, dn1 ++ [putW z r ops cs], xs', d1 ++ [v8], Nat.lt_succ_self n1, rfl, same_upd hda (sameT sG4 s49) _, upd_same, by rw [upd_ne (Ne.symm ndt)]; exact s49 _ _ h4, ats_app (hd1.keep f49) (ats_one (a9.keep f9)), hxs'.keep k49 f49, hgM, hr2, ?_, by omega⟩
    rw [List.length_append]
    show _ + 1 + n1 ≤ N
    omega
end
end Toy

set_option Elab.async false
set_option linter.all false
set_option maxRecDepth 100000
set_option maxHeartbeats 4000000
/-! Part M6: compile_program. -/
namespace Toy
open PySem L2
open PyProof.Rows (envOfC)
abbrev FnT := Str × List Str × Dd
def fnD (q : FnT) : Dd := .tup [.str q.1, nameT q.2.1, q.2.2]
def ixF (fs : List FnT) : Str → Option Int := extN noF 0 (fs.map (·.1))
def cntF (fs : List FnT) : Str → Option Int := fs.foldl (fun f q => ext1 f q.1 (q.2.1.length : Nat)) noF
theorem cntF_snoc (fs : List FnT) (q : FnT) : cntF (fs ++ [q]) = ext1 (cntF fs) q.1 (q.2.1.length : Nat) := by
  unfold cntF
  rw [List.foldl_append]
  rfl
theorem ixF_snoc (fs : List FnT) (q : FnT) : ixF (fs ++ [q]) = ext1 (ixF fs) q.1 (fs.length : Nat) := by
  unfold ixF
  rw [List.map_append]
  show extN noF 0 (fs.map (·.1) ++ [q.1]) = _
  rw [extN_snoc, List.length_map, Nat.zero_add]
/-- everything compiles -/
def CdF (ix : Str → Option Int) : List FnT → List Dd → Prop
  | [], cs => cs = []
  | q :: l, cs => ∃ c cs' n, cs = .tup [.int (q.2.1.length : Nat), c] :: cs' ∧ Cd ix q.2.2 (Sc.beg q.2.1) c n ∧ CdF ix l cs'
/-- .. or the first name that is nowhere -/
def CbF (ix : Str → Option Int) (fs : List FnT) (z : Str) : Prop := ∃ l1 q l2 cs n, fs = l1 ++ q :: l2 ∧ CdF ix l1 cs ∧ Cb ix q.2.2 (Sc.beg q.2.1) z n
theorem CdF.snoc {ix : Str → Option Int} {q : FnT} {c : Dd} {n : Nat} (h2 : Cd ix q.2.2 (Sc.beg q.2.1) c n) : ∀ {l : List FnT} {cs : List Dd}, CdF ix l cs → CdF ix (l ++ [q]) (cs ++ [.tup [.int (q.2.1.length : Nat), c]])
  | [], cs, h => by cases (show cs = [] from h); exact ⟨c, [], n, rfl, h2, rfl⟩
  | _ :: _, _, ⟨c', cs', n', e, h1, h⟩ => ⟨c', _, n', by rw [e]; rfl, h1, CdF.snoc h2 h⟩
structure FnsOk (fs : List FnT) (U : List Str) : Prop where
  len : fs.length ≤ 1000
  g : ∀ q ∈ fs, gl U q.2.2 ∧ q.2.2.sz ≤ 100000 ∧ (∀ s ∈ q.2.1, s ∈ U) ∧ q.2.1.length ≤ 1000
  u : U.length ≤ 1000000
theorem cnt_some : ∀ (fs : List FnT) (f : Str → Option Int) (s : Str), (fs.foldl (fun f q => ext1 f q.1 (q.2.1.length : Nat)) f s).isSome = true ↔ (f s).isSome = true ∨ s ∈ fs.map (·.1)
  | [], f, s => ⟨.inl, fun h => h.elim id fun z => by cases z⟩
  | q :: fs, f, s => by
    show (fs.foldl _ (ext1 f q.1 _) s).isSome = true ↔ _
    rw [cnt_some fs, List.map_cons, List.mem_cons]
    unfold ext1
    by_cases e : s = q.1
    · rw [if_pos e]
      exact ⟨fun _ => .inr (.inl e), fun _ => .inl rfl⟩
    · rw [if_neg e]
      constructor
      · rintro (h | h)
        · exact .inl h
        · exact .inr (.inr h)
      · rintro (h | h | h)
        · exact .inl h
        · exact (e h).elim
        · exact .inr h
theorem cnt_of {fs : List FnT} {m : Str} {i : Int} (h : ixF fs m = some i) : ∃ j, cntF fs m = some j := by
  have h1 : (ixF fs m).isSome = true := by rw [h]; rfl
  unfold ixF at h1
  rw [extN_some] at h1
  exact Option.isSome_iff_exists.mp ((cnt_some fs noF m).mpr h1)
structure TxtC (mg : Str → Option Value) : Prop where
  zenumerate : mg "enumerate" = none
  zlen : mg "len" = none
  ztuple : mg "tuple" = none
section
variable {P : Program} {w : World} {K : PySem.W.Frag} {mg : Str → Option Value} {base : Heap} {CU CB fU fB : Addr} {fdU fdB : FuncData}
abbrev sCompile : Stmt := topS 28
theorem scCompile : FnScope ["functions", "main", "indexes", "counts", "index", "name", "params", "_", "code", "body"] ["functions", "main"] (defScope sCompile) := ⟨rfl, rfl, rfl, by decide +kernel, rfl, by decide +kernel, by decide +kernel⟩
def spCompile (CU CB : Addr) : Sp := fun vs H Q E => ∃ (fa : Addr) (xs : List V) (fs : List FnT) (m : Str) (U : List Str), vs = [.ref fa, .str m] ∧ H fa = some (.tup xs) ∧ Dd.Ats F0 H (fs.map fnD) xs ∧ FnsOk fs U ∧ m.length ≤ 1000 ∧
  (∀ z, CbF (ixF fs) fs z → ∀ H' d, Same H H' → H' d = none → E (.ref CU) (some d) (upd H' d (.xd (nameF z)))) ∧
  (∀ cs, CdF (ixF fs) fs cs → (ixF fs m = none → ∀ H' d, Same H H' → H' d = none → E (.ref CU) (some d) (upd H' d (.xd (nameF m)))) ∧
    ∀ i j, ixF fs m = some i → cntF fs m = some j → (0 < j → ∀ H' d, Same H H' → H' d = none → E (.ref CB) (some d) (upd H' d (.xd (nameF m)))) ∧ (¬ 0 < j → ∀ v' H', Same H H' → (Dd.tup [.tup cs, .int i]).At F0 H' v' → Q v' H'))
theorem c_compile {f : Addr} {fd : FuncData} (T : TxtC mg) (R : Errs P w K mg base CU CB fU fB fdU fdB) (c_body_code : CalX P w K mg base 8 "_body_code" (spBodyC CU)) (F : Fun K "compile_program" "compile_program" sCompile f fd) (b : Binds K fd ["functions", "main"] []) (hm : mg "compile_program" = some (.ref f)) : CalX P w K mg base 9 "compile_program" (spCompile CU CB) := by
  refine calX_of F hm b scCompile (fun vs H Q E h => ?_) (fun cdv A outer s H vs Q E hr h => ?_)
  · obtain ⟨fa, xs, fs, m, U, rfl, _⟩ := h
    rfl
  obtain ⟨fa, xs, fs, m, U, rfl, hfa, hxs, ⟨hfl, hfg, hUl⟩, hml, qb, qo⟩ := h
  have hu := hu_of hr
  have hbig := big
  have hline := line9
  have hxl := ats_len hxs
  rw [List.length_map] at hxl
  refine ⟨_, (pss_cons (ps_set (i := 2) scCompile.nd rfl (Or.inr rfl) pe_dnewK)
    (pss_cons (ps_set (i := 3) scCompile.nd rfl (Or.inl rfl) pe_dnewK)
    (pss_cons (ps_for (passes_of rfl) rfl (pi_enumT rfl T.zenumerate (pa_cons (pv 0) pa_nil)) (pg_tup rfl (pgs_cons (pg_name (i := 4) scCompile.nd rfl (Or.inl rfl)) (pgs_cons (pg_tup rfl (pgs_cons (pg_name (i := 5) scCompile.nd rfl (Or.inl rfl)) (pgs_cons (pg_name (i := 6) scCompile.nd rfl (Or.inl rfl)) (pgs_cons (pg_name (i := 7) scCompile.nd rfl (Or.inl rfl)) pgs_nil)))) pgs_nil)))
      (pss_cons (ps_dput hu (pv 2) (pv 5) (pv 4) rfl)
    (pss_one (ps_dput hu (pv 3) (pv 5) (pe_callB call_len_seq rfl T.zlen PySem.boot_len (pa_cons (pv 6) pa_nil)) rfl))))
    (pss_cons (ps_setLcX (i := 8) (E := E) (takes_of rfl rfl rfl rfl) rfl rfl (own := [("_", 7), ("params", 6), ("body", 9)]) (g := gTup K 3 (gCons (gName 7) (gCons (gName 6) (gCons (gName 9) (gNil))))) (tt := tYes) (te := (tTup (tCons (tCB (fun xs H Q => ∃ p ys, xs = [V.ref p] ∧ (SqL K H p ys ∨ SqT K H p ys) ∧ Q (V.int (ys.length : Nat)) H) (tCons (tVar 6) tNil)) (tCons (tCallS (spBodyC CU) (fun _ => E) (tCons (tVar 9) (tCons (tVar 6) (tCons (tVar 2) tNil)))) tNil)))) rfl scCompile.nd rfl rfl (sw_true rfl rfl rfl (by decide +kernel)) (pi_tup (pv 0)) (blkOk_by (own := [("_", 7), ("params", 6), ("body", 9)]) (N := ["functions", "main", "indexes", "counts", "index", "name", "params", "_", "code", "body"]) (sc := defScope sCompile) (by decide +kernel)) (fun _ _ _ _ _ => (pg_tup rfl (pgs_cons (pg_name (i := 7) scCompile.nd rfl (Or.inl rfl)) (pgs_cons (pg_name (i := 6) scCompile.nd rfl (Or.inl rfl)) (pgs_cons (pg_name (i := 9) scCompile.nd rfl (Or.inl rfl)) pgs_nil))))) (fun _ _ _ _ _ => pts_nil) (fun _ _ _ _ _ => (pe_tup (pa_cons (pe_callB call_len_seq rfl T.zlen PySem.boot_len (pa_cons (pv 6) pa_nil)) (pa_cons (pe_cxB c_body_code hr (by decide) rfl (pa_cons (pv 9) (pa_cons (pv 6) (pa_cons (pv 2) pa_nil)))) pa_nil)))))
    (pss_cons (ps_if (pt_cmp (pc_dnotin hu (pv 1) (pv 2)))
      (pss_one (ps_raise rfl (takes_of rfl rfl rfl rfl) (pmk_oex R.U.o R.U.i R.U.t R.cU (hr.mono (by decide)) R.bU .nil C8.pass0 rfl R.U.g (pa_cons (pv 1) pa_nil))))
      pss_nil)
    (pss_cons (ps_if (pt_cmpR op_gt (pe_dget hu (pv 3) (pv 1) (fun _ _ => rfl)) pe_int (nomark _))
      (pss_one (ps_raise rfl (takes_of rfl rfl rfl rfl) (pmk_oex R.B.o R.B.i R.B.t R.cB (hr.mono (by decide)) R.bB .nil C8.pass0 rfl R.B.g (pa_cons (pv 1) pa_nil))))
      pss_nil)
    (pss_one (ps_ret (pe_tup (pa_cons (pe_callTy call_tuple_of rfl T.ztuple boot_tuple (pa_cons (pv 8) pa_nil)) (pa_cons (pe_dget hu (pv 2) (pv 1) (fun _ _ => rfl)) pa_nil))))))))))), ?_⟩
  intro D1 hD1
  have s1 := same_new hD1 (.dK [])
  have e1 : upd H D1 (.dK []) D1 = some (.dK []) := upd_same
  generalize upd H D1 (.dK []) = H1 at s1 e1 ⊢
  intro D2 hD2
  have s2 := same_new hD2 (.dK [])
  have e2 : upd H1 D2 (.dK []) D2 = some (.dK []) := upd_same
  have s12 := sameT s1 s2
  have e1' := s2 _ _ e1
  have nDD : D1 ≠ D2 := fun e => by rw [← e, e1] at hD2; cases hD2
  have hD2H := free_of s1 hD2
  generalize upd H1 D2 (.dK []) = H2 at s2 s12 e1' e2 ⊢
  refine ⟨_, rfl, fa, xs, rfl, SqT.of (s12 _ _ hfa), ?_⟩
  refine for_enumT (a := fa) (xs := xs)
    (fun i st G => ∃ (v4 v5 v6 v7 : Option V) (k1 k2 : List (Key × V)), st = [some (.ref fa), some (.str m), some (.ref D1), some (.ref D2), v4, v5, v6, v7, none, none] ∧ Same H G ∧ G D1 = some (.dK k1) ∧ SlAt k1 (ixF (fs.take i)) (fs.map (·.1)) ∧ G D2 = some (.dK k2) ∧ SlAt k2 (cntF (fs.take i)) (fs.map (·.1)))
    ⟨_, _, _, _, [], [], rfl, s12, e1', SlAt.nil, e2, SlAt.nil⟩ (fun i st G ⟨_, _, _, _, _, _, _, h, _⟩ => SqT.of (h _ _ hfa)) ?_ ?_
  · rintro i x T' st G hx ⟨v4, v5, v6, v7, k1, k2, rfl, sG, eD1, h1, eD2, h2⟩ hT
    obtain ⟨kk, hk, hka⟩ := ats_get hxs hx
    rw [List.getElem?_map] at hk
    obtain ⟨q, hq, rfl⟩ := Option.map_eq_some_iff.mp hk
    have hqm := List.mem_of_getElem? hq
    have hil := (List.getElem?_eq_some_iff.mp hq).1
    obtain ⟨t2, us2, rfl, ht2, w0, us3, rfl, hw0, w1, us4, rfl, hw1, w2, us5, rfl, hw2, hn5⟩ := hka
    cases (show us5 = [] from hn5)
    obtain ⟨rfl, hzl0⟩ := (show w0 = .str q.1 ∧ _ from hw0)
    obtain ⟨u5, rfl, hu5, hu6⟩ := nameT_at hw1
    have hk1 := h1.len
    have hk2 := h2.len
    rw [List.length_map] at hk1 hk2
    have sT := same_new hT (.tup [.int (i : Nat), .ref t2])
    have sGT := sameT sG sT
    have eT : upd G T' (.tup [.int (i : Nat), .ref t2]) T' = some (.tup [.int (i : Nat), .ref t2]) := upd_same
    have eD1T := sT _ _ eD1
    have eD2T := sT _ _ eD2
    generalize upd G T' (.tup [.int (i : Nat), .ref t2]) = GT at sT sGT eT eD1T eD2T ⊢
    refine ⟨T', _, rfl, SqT.of eT, rfl, _, _, rfl, _, _, rfl, ⟨t2, _, rfl, SqT.of (sGT _ _ ht2), rfl, _, _, rfl, _, _, rfl, _, _, rfl, rfl, rfl, ?_⟩⟩
    have hqn : q.1 ∈ fs.map (·.1) := List.mem_map.mpr ⟨q, hqm, rfl⟩
    refine ⟨_, rfl, _, rfl, _, rfl, D1, _, rfl, DPut.k (k := Sum.inr q.1) eD1T (by omega), ?_⟩
    have g1 : upd GT D1 (.dK (putK k1 (Sum.inr q.1) (.int (i : Nat)))) D2 = some (.dK k2) := by rw [upd_ne (Ne.symm nDD)]; exact eD2T
    have g2 : upd GT D1 (.dK (putK k1 (Sum.inr q.1) (.int (i : Nat)))) D1 = some (.dK (putK k1 (Sum.inr q.1) (.int (i : Nat)))) := upd_same
    have g3 := same_upd hD1 sGT (.dK (putK k1 (Sum.inr q.1) (.int (i : Nat))))
    generalize upd GT D1 (.dK (putK k1 (Sum.inr q.1) (.int (i : Nat)))) = GU at g1 g2 g3 ⊢
    refine ⟨_, rfl, u5, _, rfl, .inr (SqT.of (g3 _ _ hu5)), _, rfl, _, rfl, D2, _, rfl, DPut.k (k := Sum.inr q.1) g1 (by omega), ?_⟩
    have e1 : fs.take (i + 1) = fs.take i ++ [q] := by rw [List.take_add_one, hq]; rfl
    refine ⟨_, _, _, _, _, _, rfl, same_upd hD2H g3 _, by rw [upd_ne nDD]; exact g2, ?_, upd_same, ?_⟩
    · rw [e1, ixF_snoc, List.length_take, Nat.min_eq_left (Nat.le_of_lt hil)]
      exact h1.put _ hqn
    · rw [e1, cntF_snoc, List.length_map]
      exact h2.put _ hqn
  rintro st G ⟨v4, v5, v6, v7, k1, k2, rfl, sG, eD1, h1, eD2, h2⟩
  rw [hxl, List.take_length] at h1 h2
  refine ⟨_, rfl, fa, rfl, ⟨_, SqT.of (sG _ _ hfa)⟩, fun L hL => ?_⟩
  refine lc_tup (a := fa) (xs := xs) (fun i G' => Same G G' ∧ ∃ (cs : List Dd) (us : List V), CdF (ixF fs) (fs.take i) cs ∧ G' L = some (.lst us) ∧ us.length = i ∧ Dd.Ats F0 G' cs us) ⟨same_new hL _, [], [], rfl, upd_same, rfl, rfl⟩ (fun i G' _ ⟨h, _⟩ => SqT.of (h _ _ (sG _ _ hfa))) ?_ ?_
  · rintro i x G' hx ⟨s3, cs, us, hC, eL, hul, hA⟩
    obtain ⟨kk, hk, hka⟩ := ats_get hxs hx
    rw [List.getElem?_map] at hk
    obtain ⟨q, hq, rfl⟩ := Option.map_eq_some_iff.mp hk
    have hqm := List.mem_of_getElem? hq
    have hil := (List.getElem?_eq_some_iff.mp hq).1
    obtain ⟨t2, us2, rfl, ht2, w0, us3, rfl, hw0, w1, us4, rfl, hw1, w2, us5, rfl, hw2, hn5⟩ := hka
    cases (show us5 = [] from hn5)
    obtain ⟨u5, rfl, hu5, hu6⟩ := nameT_at hw1
    have sH := sameT sG s3
    obtain ⟨hg1, hg2, hg3, hg4⟩ := hfg q hqm
    have hsplit : fs = fs.take i ++ q :: fs.drop (i + 1) := by
      have z := (List.take_append_drop i fs).symm
      rw [List.drop_eq_getElem_cons hil] at z
      rw [List.getElem?_eq_getElem hil] at hq
      rw [← Option.some.inj hq]
      exact z
    refine ⟨t2, _, rfl, SqT.of (sH _ _ ht2), rfl, _, _, rfl, _, _, rfl, _, _, rfl, rfl, rfl, ?_⟩
    refine tYes_if ?_
    refine ⟨_, rfl, u5, _, rfl, .inr (SqT.of (sH _ _ hu5)), _, rfl, _, rfl, _, rfl, w2, q.2.2, u5, D1, q.2.1, k1, ixF fs, U, fs.map (·.1), rfl, hw2.keep (fr_same sH), hg1, hg2, sH _ _ hu5, hg3, hUl, by omega, s3 _ _ eD1, h1, fun z n hz H' d s' hd => ?_, fun c n hc v' H' s' ha => ?_⟩
    · exact qb z ⟨_, q, _, cs, n, hsplit, hC, hz⟩ H' d (sameT sH s') hd
    · refine ⟨by show 2 ≤ sizeLine; decide, fun t9 ht9 => ?_⟩
      have s9 := same_new ht9 (.tup [.int ((q.2.1.map V.str).length : Nat), v'])
      have sA := sameT s' s9
      have eL9 := sA _ _ eL
      have f9 := fr_list (B := F0) eL9 (fun z => z) (o := HO.lst (us ++ [.ref t9]))
      refine ⟨us, eL9, by omega, same_upd hL (sameT s3 sA) _, _, _, ?_, upd_same, by rw [List.length_append, hul]; rfl, ats_app ((hA.keep (fr_same sA)).keep f9) (ats_one ((at_tup upd_same (ats_cons ?_ (ats_one (ha.keep (fr_same s9)))) : (Dd.tup [.int (q.2.1.length : Nat), c]).At F0 _ (.ref t9)).keep f9))⟩
      · rw [List.take_add_one, hq]
        exact hC.snoc hc
      · show V.int ((q.2.1.map V.str).length : Nat) = V.int (q.2.1.length : Nat)
        rw [List.length_map]
  rintro G4 ⟨s4, cs, us, hC, eL, hul, hA⟩
  rw [hxl, List.take_length] at hC
  obtain ⟨qn, qm⟩ := qo cs hC
  have sH := sameT sG s4
  show gName 8 (V.ref L) _ _ _
  refine ⟨_, rfl, _, rfl, D1, _, rfl, DGet.k (k := Sum.inr m) (s4 _ _ eD1), ?_⟩
  rw [h1.val m]
  refine ⟨_, rfl, ?_⟩
  cases hi : ixF fs m with
  | none =>
    refine iteT ?_
    exact ⟨_, rfl, (by show 1 ≤ 1000; decide), raise_read R.U hml fun d hd => qn hi G4 d sH hd⟩
  | some i =>
    refine iteF ?_
    obtain ⟨j, hj⟩ := cnt_of hi
    obtain ⟨q1, q2⟩ := qm i j hi hj
    have hg := DGet.k (k := Sum.inr m) (s4 _ _ eD2)
    rw [h2.val m, hj] at hg
    refine ⟨_, rfl, _, rfl, D2, _, rfl, hg, _, _, rfl, rfl, ?_⟩
    refine ⟨_, rfl, ?_⟩
    by_cases hpos : 0 < j
    · rw [decide_eq_true hpos]
      refine iteT ?_
      exact ⟨_, rfl, (by show 1 ≤ 1000; decide), raise_read R.B hml fun d hd => q1 hpos G4 d sH hd⟩
    · rw [decide_eq_false hpos]
      refine iteF ?_
      have hg1 := DGet.k (k := Sum.inr m) (s4 _ _ eD1)
      rw [h1.val m, hi] at hg1
      refine ⟨_, rfl, L, us, rfl, .inl ⟨SqL.of eL, fun u hu => ?_⟩⟩
      have s5 := same_new hu (.tup us)
      have e5 : upd G4 u (.tup us) u = some (.tup us) := upd_same
      have hg5 := DGet.k (k := Sum.inr m) (s5 _ _ (s4 _ _ eD1))
      rw [h1.val m, hi] at hg5
      have hA5 := hA.keep (fr_same s5)
      generalize upd G4 u (.tup us) = G5 at s5 e5 hg5 hA5 ⊢
      refine ⟨_, rfl, _, rfl, D1, _, rfl, hg5, by show 2 ≤ sizeLine; decide, fun t ht => ?_⟩
      have s6 := same_new ht (.tup [.ref u, .int i])
      exact q2 hpos _ _ (sameT sH (sameT s5 s6)) (at_tup upd_same (ats_cons (at_tup (s6 _ _ e5) (hA5.keep (fr_same s6))) (ats_one at_int')))
end
end Toy

set_option Elab.async false
set_option linter.all false
set_option maxRecDepth 100000
set_option maxHeartbeats 4000000
/-! Part O6: the first name that is nowhere, as the law walks; against what compiling finds. -/
namespace Toy
open PySem L2
def inS (S : List Str) : Str → Option Int := fun s => if s ∈ S then some 0 else none
theorem inS_some {S : List Str} {s : Str} : (inS S s).isSome = true ↔ s ∈ S := by
  unfold inS
  by_cases h : s ∈ S
  · rw [if_pos h]; exact ⟨fun _ => h, fun _ => rfl⟩
  · rw [if_neg h]; exact ⟨fun z => (by cases z), fun z => (h z).elim⟩
def unkT (gs : List Str) : Nat → List Str → Dd → Option Str
  | 0, _, _ => none
  | n + 1, S, k => match k with
    | .tup (.str w :: r) => (opsBad (inS S) (inS gs) w r).or ((innerW w r).findSome? fun q => unkT gs n (S ++ q.1) q.2)
    | _ => none
theorem badA_congr {f g ix iy : Str → Option Int} {a : Dd} (h : ∀ s, a = .str s → (f s).isSome = (g s).isSome) (hx : ∀ s, (ix s).isSome = (iy s).isSome) : badA f ix a = badA g iy a := by
  cases a with
  | str s =>
    show (if (f s).isSome then none else if (ix s).isSome then none else some s) = (if (g s).isSome then none else if (iy s).isSome then none else some s)
    rw [h s rfl, hx s]
  | int i => rfl
  | bl b => rfl
  | non => rfl
  | tup l => rfl
  | lst l => rfl
theorem badL_congr {f g ix iy : Str → Option Int} : ∀ {l : List Dd}, (∀ s, Dd.str s ∈ l → (f s).isSome = (g s).isSome) → (∀ s, (ix s).isSome = (iy s).isSome) → badL f ix l = badL g iy l
  | [], _, _ => rfl
  | a :: l, h, hx => by
    have ih := badL_congr (l := l) (fun s hs => h s (List.mem_cons_of_mem _ hs)) hx
    unfold badL at ih ⊢
    rw [List.findSome?_cons, List.findSome?_cons, badA_congr (fun s e => h s (by rw [e]; exact List.mem_cons_self ..)) hx, ih]
theorem opsBad_congr {f g ix iy : Str → Option Int} {w : Str} {r : List Dd} (h : ∀ s, Dd.str s ∈ atomsW w r → (f s).isSome = (g s).isSome) (hx : ∀ s, (ix s).isSome = (iy s).isSome) : opsBad f ix w r = opsBad g iy w r := by
  unfold opsBad
  rw [badL_congr h hx, badA_congr (f := noF) (g := noF) (a := arg 0 r) (fun _ _ => rfl) hx]
theorem bool_iff {a b : Bool} {p : Prop} (h1 : a = true ↔ p) (h2 : b = true ↔ p) : a = b := by
  cases a <;> cases b <;> simp_all
/-- the code's scope and the law's know the same of the names that are free -/
def Alike (σ : Sc) (S : List Str) (k : Dd) : Prop := ∀ s, fr k s → ((σ.f s).isSome = true ↔ s ∈ S)
theorem Alike.bad {ix : Str → Option Int} {gs S : List Str} {σ : Sc} {w : Str} {r : List Dd} (hx : ∀ s, (ix s).isSome = true ↔ s ∈ gs) (h : Alike σ S (.tup (.str w :: r))) : opsBad σ.f ix w r = opsBad (inS S) (inS gs) w r :=
  opsBad_congr (fun s hs => bool_iff (h s (.here hs)) inS_some) fun s => bool_iff (hx s) inS_some
theorem Alike.inner {ix : Str → Option Int} {S : List Str} {σ σ' : Sc} {w : Str} {r ops : List Dd} (h : Alike σ S (.tup (.str w :: r))) (ho : OpsR ix (.tup (.str w :: r)) σ ops σ') : ∀ q ∈ innerW w r, Alike (σ'.ext q.1) (S ++ q.1) q.2 := by
  intro q hq s hs
  have e : ((σ'.ext q.1).f s).isSome = true ↔ (σ'.f s).isSome = true ∨ s ∈ q.1 := extN_some s q.1 σ'.f σ'.d
  rw [e, List.mem_append]
  by_cases hm : s ∈ q.1
  · exact ⟨fun _ => .inr hm, fun _ => .inr hm⟩
  · have hk : fr (.tup (.str w :: r)) s := .deep hq hm hs
    have hS := h s hk
    have key : (σ'.f s).isSome = true ↔ s ∈ S := by
      cases ho with
      | @later _ _ ns hn =>
        have e2 : ((Sc.beg ns).f s).isSome = true ↔ (noF s).isSome = true ∨ s ∈ ns := extN_some s ns (fun _ => none) 0
        rw [e2, hn.1 s]
        constructor
        · rintro (z | z)
          · cases z
          · exact hS.mp z.2
        · exact fun z => .inr ⟨hk, hS.mpr z⟩
      | other _ => exact hS
    rw [key]
mutual
theorem unk_ok {ix : Str → Option Int} {gs : List Str} (hx : ∀ s, (ix s).isSome = true ↔ s ∈ gs) : ∀ {k : Dd} {σ : Sc} {c : Dd} {n : Nat}, Cd ix k σ c n → ∀ {S : List Str}, Alike σ S k → ∀ N, unkT gs N S k = none
  | _, _, _, _, .node _ _ _, _, _, 0 => rfl
  | _, _, _, _, .node (w := w) (r := r) hb ho hi, S, h, N + 1 => by
    show (opsBad (inS S) (inS gs) w r).or _ = none
    rw [← h.bad hx, hb]
    exact unks_ok hx hi (h.inner ho) N
theorem unks_ok {ix : Str → Option Int} {gs : List Str} (hx : ∀ s, (ix s).isSome = true ↔ s ∈ gs) : ∀ {l : List (List Str × Dd)} {σ : Sc} {cs : List Dd} {n : Nat}, Cds ix l σ cs n → ∀ {S : List Str}, (∀ q ∈ l, Alike (σ.ext q.1) (S ++ q.1) q.2) → ∀ N, (l.findSome? fun q => unkT gs N (S ++ q.1) q.2) = none
  | _, _, _, _, .nil, _, _, _ => rfl
  | _, _, _, _, .cons (q := q) h1 h2, S, h, N => by
    rw [List.findSome?_cons, unk_ok hx h1 (h q (List.mem_cons_self ..)) N]
    exact unks_ok hx h2 (fun q hq => h q (List.mem_cons_of_mem _ hq)) N
end
mutual
theorem unk_bad {ix : Str → Option Int} {gs : List Str} (hx : ∀ s, (ix s).isSome = true ↔ s ∈ gs) : ∀ {k : Dd} {σ : Sc} {z : Str} {n : Nat}, Cb ix k σ z n → ∀ {S : List Str}, Alike σ S k → ∀ N, n ≤ N → unkT gs N S k = some z
  | _, _, _, _, .bad _, _, _, 0, hN => by cases hN
  | _, _, _, _, .bad (w := w) (r := r) hb, S, h, N + 1, _ => by
    show (opsBad (inS S) (inS gs) w r).or _ = _
    rw [← h.bad hx, hb]
    rfl
  | _, _, _, _, .deep _ _ _, _, _, 0, hN => by cases hN
  | _, _, _, _, .deep (w := w) (r := r) hb ho hi, S, h, N + 1, hN => by
    show (opsBad (inS S) (inS gs) w r).or _ = _
    rw [← h.bad hx, hb]
    exact unks_bad hx hi (h.inner ho) N (by omega)
theorem unks_bad {ix : Str → Option Int} {gs : List Str} (hx : ∀ s, (ix s).isSome = true ↔ s ∈ gs) : ∀ {l : List (List Str × Dd)} {σ : Sc} {z : Str} {n : Nat}, Cbs ix l σ z n → ∀ {S : List Str}, (∀ q ∈ l, Alike (σ.ext q.1) (S ++ q.1) q.2) → ∀ N, n ≤ N → (l.findSome? fun q => unkT gs N (S ++ q.1) q.2) = some z
  | _, _, _, _, .stop (q := q) h1, S, h, N, hN => by
    rw [List.findSome?_cons, unk_bad hx h1 (h q (List.mem_cons_self ..)) N hN]
  | _, _, _, _, .step (q := q) h1 h2, S, h, N, hN => by
    rw [List.findSome?_cons, unk_ok hx h1 (h q (List.mem_cons_self ..)) N]
    exact unks_bad hx h2 (fun q hq => h q (List.mem_cons_of_mem _ hq)) N (by omega)
end
/-- the answer of the walk does not hang on how much it may walk -/
theorem unkT_stab {U : List Str} (gs : List Str) : ∀ (n m : Nat) (k : Dd) (S : List Str), gl U k → k.sz ≤ n → k.sz ≤ m → unkT gs n S k = unkT gs m S k
  | 0, _, k, _, _, h, _ => by have := sz_pos k; omega
  | _ + 1, 0, k, _, _, _, h => by have := sz_pos k; omega
  | n + 1, m + 1, k, S, hg, h1, h2 => by
    obtain ⟨w, r, rfl, _, hi, _, _, hq⟩ := gl_parts hg
    have hs := inner_sz hi
    show (opsBad (inS S) (inS gs) w r).or _ = (opsBad (inS S) (inS gs) w r).or _
    congr 1
    have key : ∀ l : List (List Str × Dd), (∀ q ∈ l, q ∈ innerW w r) → (l.findSome? fun q => unkT gs n (S ++ q.1) q.2) = l.findSome? fun q => unkT gs m (S ++ q.1) q.2 := by
      intro l
      induction l with
      | nil => exact fun _ => rfl
      | cons q l ih =>
        intro hl
        have hm := hl q (List.mem_cons_self ..)
        have hz := szs_mem (List.mem_map.mpr ⟨q, hm, rfl⟩ : q.2 ∈ (innerW w r).map (·.2))
        rw [List.findSome?_cons, List.findSome?_cons, unkT_stab gs n m q.2 _ (hq q hm).2 (by omega) (by omega), ih fun p hp => hl p (List.mem_cons_of_mem _ hp)]
    exact key _ fun _ h => h
end Toy

set_option Elab.async false
set_option linter.all false
set_option maxRecDepth 100000
set_option maxHeartbeats 4000000
/-! Part P6: _law_first, _law_either. -/
namespace Toy
open PySem L2
open PyProof.Rows (envOfC)
def optV : Option Str → V
  | some z => .str z
  | none => .non
theorem optV_none {o : Option Str} : optV o = .non ↔ o = none := by
  cases o with
  | none => exact ⟨fun _ => rfl, fun _ => rfl⟩
  | some z => exact ⟨fun h => (by cases h), fun h => (by cases h)⟩
theorem badA_app (S gs : List Str) (a : Dd) : badA (inS (S ++ gs)) noF a = badA (inS S) (inS gs) a := by
  cases a with
  | str s =>
    show (if (inS (S ++ gs) s).isSome then none else if (noF s).isSome then none else some s) = (if (inS S s).isSome then none else if (inS gs s).isSome then none else some s)
    unfold inS noF
    by_cases h1 : s ∈ S
    · rw [if_pos (List.mem_append_left _ h1), if_pos h1]
      rfl
    · by_cases h2 : s ∈ gs
      · rw [if_pos (List.mem_append_right _ h2), if_neg h1, if_pos h2]
        rfl
      · rw [if_neg fun z => (List.mem_append.mp z).elim h1 h2, if_neg h1, if_neg h2]
  | int i => rfl
  | bl b => rfl
  | non => rfl
  | tup l => rfl
  | lst l => rfl
theorem badL_app (S gs : List Str) (l : List Dd) : badL (inS (S ++ gs)) noF l = badL (inS S) (inS gs) l := by
  unfold badL
  rw [show badA (inS (S ++ gs)) noF = badA (inS S) (inS gs) from funext (badA_app S gs)]
structure TxtFi (mg : Str → Option Value) : Prop where
  zisinstance : mg "isinstance" = none
  zstr : mg "str" = none
section
variable {P : Program} {w : World} {K : PySem.W.Frag} {mg : Str → Option Value} {base : Heap}
abbrev sFirst : Stmt := topS 58
theorem scFirst : FnScope ["atoms", "scope", "atom"] ["atoms", "scope"] (defScope sFirst) := ⟨rfl, rfl, rfl, by decide +kernel, rfl, by decide +kernel, by decide +kernel⟩
def spFirst : Sp := fun vs H Q _ => ∃ (ua sc : Addr) (xs : List V) (l : List Dd) (S : List Str), vs = [.ref ua, .ref sc] ∧ H ua = some (.tup xs) ∧ Dd.Ats F0 H l xs ∧ (∀ a ∈ l, isAtm a = true) ∧ H sc = some (.lst (S.map V.str)) ∧ ∀ H', Same H H' → Q (optV (badL (inS S) noF l)) H'
theorem c_first {f : Addr} {fd : FuncData} (T : TxtFi mg) (F : Fun K "_law_first" "_law_first" sFirst f fd) (b : Binds K fd ["atoms", "scope"] []) (hm : mg "_law_first" = some (.ref f)) : C8.Cal P w K mg base 1 "_law_first" spFirst [] := by
  refine cal_of F hm b scFirst (fun vs H Q E h => ?_) (fun cdv A outer s H vs Q E hr h => ?_)
  · obtain ⟨ua, sc, xs, l, S, rfl, _⟩ := h
    rfl
  obtain ⟨ua, sc, xs, l, S, rfl, hua, hxs, hatm, hsc, q⟩ := h
  have hxl := ats_len hxs
  refine ⟨_, (pss_cons (ps_for PassesOwn.never rfl (pi_tup (pv 0)) (pg_name (i := 2) scFirst.nd rfl (Or.inl rfl))
      (pss_one (ps_if (PW.pt (pw_and (pt_val (pe_callB call_isi rfl T.zisinstance boot_isinstance (pa_cons (pv 2) (pa_cons (pe_bltn (v := .ty "str") rfl T.zstr boot_str rfl) pa_nil)))) (pw_and1 (pt_cmpR op_notIn_seq (pv 2) (pv 1) rfl))))
      (pss_one (ps_ret (pv 2)))
      pss_nil)))
    (pss_one (ps_ret pe_non))), ?_⟩
  refine ⟨_, rfl, ua, rfl, ⟨_, SqT.of hua⟩, for_tup (a := ua) (xs := xs) (fun i st G => ∃ (v2 : Option V), st = [some (.ref ua), some (.ref sc), v2] ∧ G = H ∧ badL (inS S) noF (l.take i) = none) ⟨_, rfl, rfl, rfl⟩ (fun i st G _ ⟨_, _, e, _⟩ => by rw [e]; exact SqT.of hua) ?_ ?_⟩
  · rintro i x st G hx ⟨v2, rfl, rfl, hb⟩
    obtain ⟨kk, hk, hka⟩ := ats_get hxs hx
    have hat := hatm kk (List.mem_of_getElem? hk)
    have e1 : l.take (i + 1) = l.take i ++ [kk] := by rw [List.take_add_one, hk]; rfl
    match kk, hat with
    | .int n, _ =>
      refine ⟨_, rfl, x, .ty "str", _, _, _, rfl, .ty "str", ty_of (k := .int n) hka, kit_str (.int n), ?_⟩
      refine ⟨_, rfl, ?_⟩
      refine iteF ?_
      refine iteF ?_
      exact ⟨_, rfl, rfl, by rw [e1]; exact (badL_snoc hb).trans rfl⟩
    | .str n, _ =>
      refine ⟨_, rfl, x, .ty "str", _, _, _, rfl, .ty "str", ty_of (k := .str n) hka, kit_str (.str n), ?_⟩
      obtain ⟨rfl, _⟩ := (show x = .str n ∧ _ from hka)
      refine ⟨_, rfl, ?_⟩
      refine iteT ?_
      refine ⟨_, rfl, _, rfl, sc, _, rfl, .inl (SqL.of hsc), rfl, flat_strs _, _, rfl, ?_⟩
      have nin : (if true = true then !inV (.str n) (S.map V.str) else inV (.str n) (S.map V.str)) = !decide (n ∈ S) := by rw [if_pos rfl, inV_strs]
      rw [nin]
      by_cases hn : n ∈ S
      · rw [decide_eq_true hn]
        refine iteF ?_
        refine ⟨_, rfl, rfl, ?_⟩
        rw [e1]
        refine (badL_snoc hb).trans ?_
        show (if (inS S n).isSome then none else _) = none
        rw [if_pos (inS_some.mpr hn)]
      · rw [decide_eq_false hn]
        refine iteT ?_
        have hbn : badA (inS S) noF (.str n) = some n := by
          show (if (inS S n).isSome then none else if (noF n).isSome then none else some n) = some n
          rw [if_neg fun z => hn (inS_some.mp z)]
          rfl
        have hl : badL (inS S) noF l = some n := by
          rw [← List.take_append_drop (i + 1) l, e1]
          exact badL_pre ((badL_snoc hb).trans hbn)
        rw [hl] at q
        exact ⟨_, rfl, q G fun _ _ e => e⟩
  rintro st G ⟨v2, rfl, rfl, hb⟩
  rw [hxl, List.take_length] at hb
  rw [hb] at q
  exact q G fun _ _ e => e
abbrev sEither : Stmt := topS 59
theorem scEither : FnScope ["one", "other"] ["one", "other"] (defScope sEither) := ⟨rfl, rfl, rfl, by decide +kernel, rfl, by decide +kernel, by decide +kernel⟩
def spEither : Sp := fun vs H Q _ => ∃ o1 o2 : Option Str, vs = [optV o1, optV o2] ∧ Q (optV (o1.or o2)) H
theorem c_either {f : Addr} {fd : FuncData} (F : Fun K "_law_either" "_law_either" sEither f fd) (b : Binds K fd ["one", "other"] []) (hm : mg "_law_either" = some (.ref f)) : C8.Cal P w K mg base 1 "_law_either" spEither [] := by
  refine cal_of F hm b scEither (fun vs H Q E h => ?_) (fun cdv A outer s H vs Q E hr h => ?_)
  · obtain ⟨o1, o2, rfl, _⟩ := h
    rfl
  obtain ⟨o1, o2, rfl, q⟩ := h
  refine ⟨_, (pss_cons (ps_if (pt_cmpR op_notN (pv 0) pe_non (nomark _))
      (pss_one (ps_ret (pv 0)))
      pss_nil)
    (pss_one (ps_ret (pv 1)))), ?_⟩
  refine ⟨_, rfl, rfl, _, rfl, ?_⟩
  cases o1 with
  | none =>
    refine iteF ?_
    exact ⟨_, rfl, q⟩
  | some z =>
    refine iteT ?_
    exact ⟨_, rfl, q⟩
end
end Toy

set_option Elab.async false
set_option linter.all false
set_option maxRecDepth 100000
set_option maxHeartbeats 8000000
/-! Part Q6: the law's walk. -/
namespace Toy
open PySem L2
open PyProof.Rows (envOfC)
/-- places, depth: bodies (true) and what is delayed (false) -/
def DpT : Nat → Bool → Dd → Prop
  | 0, _, _ => False
  | n + 1, b, k => ∃ w r, k = .tup (.str w :: r) ∧ (if b then w ≠ "later" ∧ w ≠ "part" else w = "later" ∨ w = "con" ∨ w = "part") ∧ (w = "atom" → r.length = 1) ∧
      ∀ (i : Nat) (q : List Str × Dd), (innerW w r)[i]? = some q → DpT n (!(decide (w = "let") && decide (i + 1 < (innerW w r).length))) q.2
def unk (gs S : List Str) (k : Dd) : Option Str := unkT gs k.sz S k
theorem unk_eq {U gs S : List Str} {w : Str} {r : List Dd} (hg : gl U (.tup (.str w :: r))) : unk gs S (.tup (.str w :: r)) = (opsBad (inS S) (inS gs) w r).or ((innerW w r).findSome? fun q => unk gs (S ++ q.1) q.2) := by
  obtain ⟨z', r', ee, hao, hi, _, _, hq⟩ := gl_parts hg
  have ee := Dd.tup.inj ee
  obtain ⟨ee1, ee2⟩ := List.cons.inj ee
  cases Dd.str.inj ee1
  cases ee2
  have hs := inner_sz hi
  have e0 : unk gs S (.tup (.str w :: r)) = unkT gs ((Dd.tup (.str w :: r)).sz + 1) S (.tup (.str w :: r)) := unkT_stab gs _ _ _ S hg (Nat.le_refl _) (Nat.le_succ _)
  rw [e0]
  show (opsBad (inS S) (inS gs) w r).or _ = (opsBad (inS S) (inS gs) w r).or _
  congr 1
  have key : ∀ l : List (List Str × Dd), (∀ q ∈ l, q ∈ innerW w r) → (l.findSome? fun q => unkT gs (Dd.tup (.str w :: r)).sz (S ++ q.1) q.2) = l.findSome? fun q => unk gs (S ++ q.1) q.2 := by
    intro l
    induction l with
    | nil => exact fun _ => rfl
    | cons q l ih =>
      intro hl
      have hm := hl q (List.mem_cons_self ..)
      have hz := szs_mem (List.mem_map.mpr ⟨q, hm, rfl⟩ : q.2 ∈ (innerW w r).map (·.2))
      rw [List.findSome?_cons, List.findSome?_cons, ih fun p hp => hl p (List.mem_cons_of_mem _ hp), unkT_stab gs _ q.2.sz q.2 _ (hq q hm).2 (by omega) (Nat.le_refl _)]
      rfl
  exact key _ fun _ h => h
/-! ### alternatives -/
def nsR (z : Str) (q : Dd) : List Str := if z = "case" then strsOf (nth 1 q) else []
def dfI : Dd → List (List Str × Dd)
  | .non => []
  | d => [([strOf (nth 0 d)], nth 1 d)]
theorem inner_choice {z : Str} (hz : z = "case" ∨ z = "pick") (x d : Dd) (rows : List Dd) : innerW z [x, .tup rows, d] = ([], x) :: ((rows.map fun q => (nsR z q, lastD q)) ++ dfI d) := by
  have key : ∀ (l : List Dd) (A : List (List Str)) (B : List Dd) (g : Dd → List Str), (l.map g ++ A).zip (l.map lastD ++ B) = (l.map fun q => (g q, lastD q)) ++ A.zip B := by
    intro l A B g
    induction l with
    | nil => rfl
    | cons q l ih =>
      show (g q, lastD q) :: (l.map g ++ A).zip (l.map lastD ++ B) = (g q, lastD q) :: ((l.map fun q => (g q, lastD q)) ++ A.zip B)
      rw [ih]
  have kd : (dfltNs d).zip (dfltP d) = dfI d := by
    cases d <;> rfl
  unfold innerW
  rcases hz with e | e <;> subst e
  · rw [if_neg (by decide +kernel), if_pos (by decide +kernel), sw_case, pw_case]
    show ([], x) :: ((rows.map _ ++ dfltNs d).zip (rows.map lastD ++ dfltP d)) = _
    rw [key, kd]
    rfl
  · rw [if_neg (by decide +kernel), if_pos (by decide +kernel), sw_pick, pw_pick]
    show ([], x) :: ((rows.map _ ++ dfltNs d).zip (rows.map lastD ++ dfltP d)) = _
    rw [key, kd]
    rfl
theorem findSome_snoc {α : Type} (f : α → Option Str) (l : List α) (a : α) : (l ++ [a]).findSome? f = (l.findSome? f).or (f a) := by
  rw [List.findSome?_append]
  congr 1
  rw [List.findSome?_cons, List.findSome?_nil]
  cases f a <;> rfl
theorem or_assoc3 (a b c : Option Str) : (a.or b).or c = a.or (b.or c) := by cases a <;> rfl
theorem last_mem {m : List Dd} (h : 1 ≤ m.length) : lastD (.tup m) ∈ m := by
  rcases List.eq_nil_or_concat m with rfl | ⟨l, k, rfl⟩
  · cases h
  · show (l.concat k).getLastD .non ∈ _
    rw [List.concat_eq_append, List.getLastD_concat]
    exact List.mem_append_right _ (List.mem_singleton.mpr rfl)
theorem dflt_cases {d : Dd} (h : isDflt d = true) : d = .non ∨ ∃ n0 k1, d = .tup [n0, k1] ∧ isName n0 = true := by
  match d, h with
  | .non, _ => exact .inl rfl
  | .tup m, hm =>
    obtain ⟨n0, k1, rfl⟩ := len2 (of_decide_eq_true (fand (show (decide (m.length = 2) && isName (m.getD 0 .non)) = true from hm)).1)
    exact .inr ⟨n0, k1, rfl, (fand (a := decide ([n0, k1].length = 2)) hm).2⟩
structure TxtRw (mg : Str → Option Value) : Prop where
  zlist : mg "list" = none
section
variable {P : Program} {w : World} {K : PySem.W.Frag} {mg : Str → Option Value} {base : Heap}
structure UAt (H : Hp) (sc gc : Addr) (S gs : List Str) (m : Nat) : Prop where
  s : H sc = some (.lst (S.map V.str))
  g : H gc = some (.lst (gs.map V.str))
  l : S.length + gs.length + m ≤ 500000
def spUnk (b : Bool) (n : Nat) : Sp := fun vs H Q _ => ∃ (v : V) (k : Dd) (U : List Str) (sc gc : Addr) (S gs : List Str), vs = [v, .ref sc, .ref gc] ∧ k.At F0 H v ∧ gl U k ∧ DpT n b k ∧ k.sz ≤ 100000 ∧ UAt H sc gc S gs k.sz ∧ ∀ H', Same H H' → Q (optV (unk gs S k)) H'
abbrev sUMember : Stmt := topS 60
theorem scUMember : FnScope ["member", "scope", "functions"] ["member", "scope", "functions"] (defScope sUMember) := ⟨rfl, rfl, rfl, by decide +kernel, rfl, by decide +kernel, by decide +kernel⟩
theorem c_umember {n : Nat} {f : Addr} {fd : FuncData} (c_law_unknown : C8.Cal P w K mg base (2 * n + 1) "_law_unknown" (spUnk true n) []) (c_law_first : C8.Cal P w K mg base 1 "_law_first" spFirst []) (F : Fun K "_law_unknown_member" "_law_unknown_member" sUMember f fd) (b : Binds K fd ["member", "scope", "functions"] []) (hm : mg "_law_unknown_member" = some (.ref f)) : C8.Cal P w K mg base (2 * n + 2) "_law_unknown_member" (spUnk false (n + 1)) [] := by
  refine cal_of F hm b scUMember (fun vs H Q E h => ?_) (fun cdv A outer s H vs Q E hr h => ?_)
  · obtain ⟨v, k, U, sc, gc, S, gs, rfl, _⟩ := h
    rfl
  obtain ⟨v, k, U, sc, gc, S, gs, rfl, hat, hgl, ⟨z, r, rfl, hpl, _, hdp⟩, hsz, ⟨h1, h2, h3⟩, q⟩ := h
  rw [unk_eq hgl] at q
  have hbig := big
  obtain ⟨z', r', ee, hao, hio, hatm, hmk, hin⟩ := gl_parts hgl
  have ee := Dd.tup.inj ee
  obtain ⟨ee1, ee2⟩ := List.cons.inj ee
  cases Dd.str.inj ee1
  cases ee2
  refine ⟨_, (pss_cons (ps_if (pt_cmpR op_eq (pe_ix ix_tup (pv 0) pe_int (fun _ _ => rfl)) pe_str (nomark _))
      (pss_one (ps_ret (C8.pe_c c_law_unknown hr (by omega) rfl (pa_cons (pe_ix ix_tup (pv 0) pe_int (fun _ _ => rfl)) (pa_cons (pv 1) (pa_cons (pv 2) pa_nil))))))
      pss_nil)
    (pss_cons (ps_if (PW.pt (pw_and (pt_cmpR op_eq (pe_ix ix_tup (pv 0) pe_int (fun _ _ => rfl)) pe_str (nomark _)) (pw_and1 (pt_cmpR op_notIn_seq (pe_ix ix_tup (pv 0) pe_int (fun _ _ => rfl)) (pv 2) rfl))))
      (pss_one (ps_ret (pe_ix ix_tup (pv 0) pe_int (fun _ _ => rfl))))
      pss_nil)
    (pss_one (ps_ret (C8.pe_c c_law_first hr (by omega) rfl (pa_cons (pe_ix ix_tup (pv 0) pe_int (fun _ _ => rfl)) (pa_cons (pe_op op_cat (pv 1) (pv 2)) pa_nil))))))), ?_⟩
  obtain ⟨a, ys, rfl, ha, hys, hyl, hzl⟩ := head_at hat
  refine ⟨_, rfl, a, _, 0, _, rfl, rfl, SqT.of ha, at0 _ _, rfl, _, rfl, ?_⟩
  by_cases c1 : z = "later"
  · subst c1
    show if decide (V.str "later" = V.str "later") = true then _ else _
    rw [wtt]
    refine iteT ?_
    obtain ⟨x, hx, hxa⟩ := arg_at (v0 := .str "later") hys (i := 0) (hio.1 rfl)
    have ei : innerW "later" r = [([], arg 0 r)] := by unfold innerW; rw [if_pos rfl]
    have hq := hin ([], arg 0 r) (by rw [ei]; exact List.mem_singleton.mpr rfl)
    have hd := hdp 0 ([], arg 0 r) (by rw [ei]; rfl)
    have hz := inner_sz hio
    rw [ei] at hz hd q
    have hz : (arg 0 r).sz + 0 < _ := hz
    have e : (opsBad (inS S) (inS gs) "later" r).or ([(([] : List Str), arg 0 r)].findSome? fun q => unk gs (S ++ q.1) q.2) = unk gs S (arg 0 r) := by
      have e1 : opsBad (inS S) (inS gs) "later" r = none := by unfold opsBad; rw [if_pos rfl]
      rw [e1, List.findSome?_cons, List.append_nil]
      show Option.or none _ = _
      cases unk gs S (arg 0 r) <;> rfl
    rw [e] at q
    exact ⟨_, rfl, a, _, 1, _, rfl, rfl, SqT.of ha, hx, _, rfl, _, rfl, x, arg 0 r, U, sc, gc, S, gs, rfl, hxa, hq.2, hd, by omega, ⟨h1, h2, by omega⟩, q⟩
  show if decide (V.str z = V.str "later") = true then _ else _
  rw [wne c1]
  refine iteF ?_
  have hpl : z = "con" ∨ z = "part" := (show z = "later" ∨ z = "con" ∨ z = "part" from hpl).elim (fun e => (c1 e).elim) id
  obtain ⟨hl2, htu⟩ := hao.2.1 (.inr hpl)
  obtain ⟨x1, hx1, hxa1⟩ := arg_at (v0 := .str z) hys (i := 0) (by omega)
  obtain ⟨x2, hx2, hxa2⟩ := arg_at (v0 := .str z) hys (i := 1) (by omega)
  rw [dd_tup htu] at hxa2
  obtain ⟨p, zs, rfl, ep, hps⟩ := hxa2
  have ea : atomsW z r = tl (arg 1 r) := by
    unfold atomsW
    rcases hpl with e | e <;> subst e
    · rw [if_neg (by decide +kernel), if_neg (by decide +kernel), if_pos (.inl rfl)]
    · rw [if_neg (by decide +kernel), if_neg (by decide +kernel), if_pos (.inr rfl)]
  have ei : innerW z r = [] := by
    unfold innerW
    rcases hpl with e | e <;> subst e
    · rw [if_neg (by decide +kernel), if_neg (by decide +kernel)]
    · rw [if_neg (by decide +kernel), if_neg (by decide +kernel)]
  rw [ei] at q
  have q : ∀ H', Same H H' → Q (optV (opsBad (inS S) (inS gs) z r)) H' := fun H' s' => by
    have z9 := q H' s'
    rw [List.findSome?_nil, Option.or_none] at z9
    exact z9
  refine ⟨_, rfl, a, _, 0, _, rfl, rfl, SqT.of ha, at0 _ _, rfl, _, rfl, ?_⟩
  have rest : opsBad (inS S) (inS gs) z r = badL (inS S) (inS gs) (atomsW z r) → ∀ Ln, H Ln = none → spFirst [.ref p, .ref Ln] (upd H Ln (.lst (S.map V.str ++ gs.map V.str))) (fun v' H' => Q v' H') E := fun e Ln hLn => by
    have s1 := same_new hLn (.lst (S.map V.str ++ gs.map V.str))
    refine ⟨p, Ln, zs, tl (arg 1 r), S ++ gs, rfl, s1 _ _ ep, hps.keep (fr_same s1), fun x hx => hatm x (by rw [ea]; exact hx), by rw [upd_same, List.map_append], fun H' s' => ?_⟩
    have z9 := q H' (sameT s1 s')
    rw [e, ea, ← badL_app] at z9
    exact z9
  by_cases c2 : z = "part"
  · subst c2
    show if decide (V.str "part" = V.str "part") = true then _ else _
    rw [wtt]
    refine iteT ?_
    have hstr := hmk.2.2 rfl
    obtain ⟨n1, en⟩ : ∃ n1, arg 0 r = .str n1 := by
      cases e : arg 0 r with
      | str n => exact ⟨n, rfl⟩
      | int i => rw [e] at hstr; cases hstr
      | bl b => rw [e] at hstr; cases hstr
      | non => rw [e] at hstr; cases hstr
      | tup l => rw [e] at hstr; cases hstr
      | lst l => rw [e] at hstr; cases hstr
    rw [en] at hxa1
    obtain ⟨rfl, _⟩ := (show x1 = .str n1 ∧ _ from hxa1)
    have nin : (if true = true then !inV (.str n1) (gs.map V.str) else inV (.str n1) (gs.map V.str)) = !decide (n1 ∈ gs) := by rw [if_pos rfl, inV_strs]
    refine ⟨_, rfl, a, _, 1, _, rfl, rfl, SqT.of ha, hx1, _, rfl, gc, _, rfl, .inl (SqL.of h2), rfl, flat_strs _, _, rfl, ?_⟩
    rw [nin]
    have eb : opsBad (inS S) (inS gs) "part" r = (badA noF (inS gs) (.str n1)).or (badL (inS S) (inS gs) (atomsW "part" r)) := by
      unfold opsBad
      rw [if_neg (by decide +kernel), if_pos rfl, en]
    by_cases hn : n1 ∈ gs
    · rw [decide_eq_true hn]
      refine iteF ?_
      refine ⟨_, rfl, a, _, 2, _, rfl, rfl, SqT.of ha, hx2, _, rfl, _, rfl, sc, gc, _, _, rfl, rfl, h1, h2, by rw [List.length_map, List.length_map]; omega, rest ?_⟩
      rw [eb]
      have e0 : badA noF (inS gs) (.str n1) = none := by
        show (if (noF n1).isSome then none else if (inS gs n1).isSome then none else some n1) = none
        rw [show (inS gs n1).isSome = true from inS_some.mpr hn]
        rfl
      rw [e0]
      rfl
    · rw [decide_eq_false hn]
      refine iteT ?_
      have e0 : badA noF (inS gs) (.str n1) = some n1 := by
        show (if (noF n1).isSome then none else if (inS gs n1).isSome then none else some n1) = some n1
        rw [if_neg (show ¬ (noF n1).isSome = true from Bool.false_ne_true), if_neg fun z => hn (inS_some.mp z)]
      have z9 := q H fun _ _ e => e
      rw [eb, e0] at z9
      exact ⟨_, rfl, a, _, 1, _, rfl, rfl, SqT.of ha, hx1, z9⟩
  show if decide (V.str z = V.str "part") = true then _ else _
  rw [wne c2]
  refine iteF ?_
  refine ⟨_, rfl, a, _, 2, _, rfl, rfl, SqT.of ha, hx2, _, rfl, _, rfl, sc, gc, _, _, rfl, rfl, h1, h2, by rw [List.length_map, List.length_map]; omega, rest ?_⟩
  unfold opsBad
  rw [if_neg c1, if_neg c2]
abbrev sURows : Stmt := topS 61
theorem scURows : FnScope ["body", "scope", "functions", "found", "row", "inner"] ["body", "scope", "functions"] (defScope sURows) := ⟨rfl, rfl, rfl, by decide +kernel, rfl, by decide +kernel, by decide +kernel⟩
def spRows (n : Nat) : Sp := fun vs H Q _ => ∃ (v : V) (z : Str) (r : List Dd) (U : List Str) (sc gc : Addr) (S gs : List Str), vs = [v, .ref sc, .ref gc] ∧ (z = "case" ∨ z = "pick") ∧ (Dd.tup (.str z :: r)).At F0 H v ∧ gl U (.tup (.str z :: r)) ∧ DpT n true (.tup (.str z :: r)) ∧ (Dd.tup (.str z :: r)).sz ≤ 100000 ∧ UAt H sc gc S gs (Dd.tup (.str z :: r)).sz ∧ ∀ H', Same H H' → Q (optV (unk gs S (.tup (.str z :: r)))) H'
theorem c_urows {n : Nat} {f : Addr} {fd : FuncData} (T : TxtRw mg) (c_law_unknown : C8.Cal P w K mg base (2 * n + 1) "_law_unknown" (spUnk true n) []) (c_law_either : C8.Cal P w K mg base 1 "_law_either" spEither []) (F : Fun K "_law_unknown_rows" "_law_unknown_rows" sURows f fd) (b : Binds K fd ["body", "scope", "functions"] []) (hm : mg "_law_unknown_rows" = some (.ref f)) : C8.Cal P w K mg base (2 * n + 2) "_law_unknown_rows" (spRows (n + 1)) [] := by
  refine cal_of F hm b scURows (fun vs H Q E h => ?_) (fun cdv A outer s H vs Q E hr h => ?_)
  · obtain ⟨v, z, r, U, sc, gc, S, gs, rfl, _⟩ := h
    rfl
  obtain ⟨v, z, r, U, sc, gc, S, gs, rfl, hz0, hat, hgl, ⟨z1, r1, ee0, hpl, _, hdp⟩, hsz, ⟨h1, h2, h3⟩, q⟩ := h
  have hbig := big
  have hgl0 := hgl
  have ee0 := Dd.tup.inj ee0
  obtain ⟨ee1, ee2⟩ := List.cons.inj ee0
  cases Dd.str.inj ee1
  cases ee2
  obtain ⟨z', r', ee, hao, hio, hatm, hmk, hin⟩ := gl_parts hgl
  have ee := Dd.tup.inj ee
  obtain ⟨ee1, ee2⟩ := List.cons.inj ee
  cases Dd.str.inj ee1
  cases ee2
  have hcw : z ∈ coreWords := by rcases hz0 with e | e <;> subst e <;> decide +kernel
  have hnl : z ≠ "let" := by rcases hz0 with e | e <;> subst e <;> decide +kernel
  have hf := hio.2 hcw
  obtain ⟨x, d, rows, rfl, hrl, hdf, hcase⟩ : ∃ (x d : Dd) (rows : List Dd), r = [x, .tup rows, d] ∧ (∀ q ∈ rows, ∃ m, q = .tup m ∧ 1 ≤ m.length ∧ (z = "case" → ∃ t ns b, m = [t, nameT ns, b] ∧ ns = strsOf (nth 1 q))) ∧ isDflt d = true ∧ True := by
    rcases hz0 with e | e <;> subst e
    · rw [fw_case] at hf
      obtain ⟨g1, g4⟩ := fand hf
      obtain ⟨g1, g3⟩ := fand g1
      obtain ⟨g1, g2⟩ := fand g1
      obtain ⟨x, y, d, rfl⟩ := len3 (of_decide_eq_true g1)
      obtain ⟨rows, er, hrows⟩ := rows_are (show areRows 3 y = true from g2)
      subst er
      refine ⟨x, d, rows, rfl, fun q hq => ?_, g3, trivial⟩
      obtain ⟨m, rfl, hm⟩ := hrows q hq
      obtain ⟨t, nn, b, rfl⟩ := len3 hm
      have h6 : areNames nn = true := (fand (List.all_eq_true.mp g4 _ hq)).2
      exact ⟨_, rfl, by show 1 ≤ 3; decide, fun _ => ⟨t, strsOf nn, b, by rw [← names_back h6], rfl⟩⟩
    · rw [fw_pick] at hf
      obtain ⟨g1, g4⟩ := fand hf
      obtain ⟨g1, g3⟩ := fand g1
      obtain ⟨g1, g2⟩ := fand g1
      obtain ⟨x, y, d, rfl⟩ := len3 (of_decide_eq_true g1)
      obtain ⟨rows, er, hrows⟩ := rows_are (show areRows 2 y = true from g2)
      subst er
      refine ⟨x, d, rows, rfl, fun q hq => ?_, g3, trivial⟩
      obtain ⟨m, rfl, hm⟩ := hrows q hq
      exact ⟨m, rfl, by omega, fun e => absurd e (by decide +kernel)⟩
  have ei := inner_choice hz0 x d rows
  have hinz := inner_sz hio
  rw [ei] at hinz
  have hdp' : ∀ q ∈ innerW z [x, .tup rows, d], DpT n true q.2 := fun q hq => by
    obtain ⟨i, hi, e⟩ := List.getElem_of_mem hq
    have z9 := hdp i q (by rw [List.getElem?_eq_getElem hi, e])
    rw [decide_eq_false hnl] at z9
    exact z9
  have hsum : Dd.szs ((innerW z [x, .tup rows, d]).map (·.2)) ≤ 100000 := by rw [ei]; omega
  have hsz1 : ∀ q ∈ innerW z [x, .tup rows, d], q.2.sz ≤ 100000 := fun q hq => by
    have := szs_mem (List.mem_map.mpr ⟨q, hq, rfl⟩ : q.2 ∈ (innerW z [x, .tup rows, d]).map (·.2))
    omega
  have hob : opsBad (inS S) (inS gs) z [x, .tup rows, d] = none := by
    have ea : atomsW z [x, .tup rows, d] = [] := by
      unfold atomsW
      rcases hz0 with e | e <;> subst e <;> rw [if_neg (by decide +kernel), if_neg (by decide +kernel), if_neg (by decide +kernel), if_neg (by decide +kernel)]
    unfold opsBad
    rw [ea, if_neg (by rcases hz0 with e | e <;> subst e <;> decide +kernel), if_neg (by rcases hz0 with e | e <;> subst e <;> decide +kernel)]
    rfl
  have hunk : unk gs S (.tup (.str z :: [x, .tup rows, d])) = ((unk gs S x).or ((rows.map fun q => (nsR z q, lastD q)).findSome? fun q => unk gs (S ++ q.1) q.2)).or ((dfI d).findSome? fun q => unk gs (S ++ q.1) q.2) := by
    rw [unk_eq hgl0, hob, ei, List.findSome?_cons, List.append_nil, or_assoc3, ← List.findSome?_append]
    show Option.or none _ = _
    cases unk gs S x <;> rfl
  rw [hunk] at q
  refine ⟨_, (pss_cons (ps_set (i := 3) scURows.nd rfl (Or.inl rfl) (C8.pe_c c_law_unknown hr (by omega) rfl (pa_cons (pe_ix ix_tup (pv 0) pe_int (fun _ _ => rfl)) (pa_cons (pv 1) (pa_cons (pv 2) pa_nil)))))
    (pss_cons (ps_for PassesOwn.never rfl (pi_tup (pe_ix ix_tup (pv 0) pe_int (fun _ _ => rfl))) (pg_name (i := 4) scURows.nd rfl (Or.inl rfl))
      (pss_cons (ps_set (i := 5) scURows.nd rfl (Or.inl rfl) (pv 1))
    (C8.pss_cut (ps_if (pt_cmpR op_eq (pe_ix ix_tup (pv 0) pe_int (fun _ _ => rfl)) pe_str (nomark _))
      (pss_one (ps_set (i := 5) scURows.nd rfl (Or.inl rfl) (pe_op op_cat (pv 1) (pe_callTy call_list_of rfl T.zlist boot_list (pa_cons (pe_ix ix_tup (pv 4) pe_int (fun _ _ => rfl)) pa_nil)))))
      pss_nil)
    (pss_one (ps_set (i := 3) scURows.nd rfl (Or.inl rfl) (C8.pe_c c_law_either hr (by omega) rfl (pa_cons (pv 3) (pa_cons (C8.pe_c c_law_unknown hr (by omega) rfl (pa_cons (pe_ix ix_tup (pv 4) (pe_un un_neg pe_int) (fun _ _ => rfl)) (pa_cons (pv 5) (pa_cons (pv 2) pa_nil)))) pa_nil))))))))
    (pss_cons (ps_if (pt_cmpR op_notN (pe_ix ix_tup (pv 0) pe_int (fun _ _ => rfl)) pe_non (nomark _))
      (pss_one (ps_set (i := 3) scURows.nd rfl (Or.inl rfl) (C8.pe_c c_law_either hr (by omega) rfl (pa_cons (pv 3) (pa_cons (C8.pe_c c_law_unknown hr (by omega) rfl (pa_cons (pe_ix ix_tup (pe_ix ix_tup (pv 0) pe_int (fun _ _ => rfl)) pe_int (fun _ _ => rfl)) (pa_cons (pe_op op_cat (pv 1) (pe_lst (pa_cons (pe_ix ix_tup (pe_ix ix_tup (pv 0) pe_int (fun _ _ => rfl)) pe_int (fun _ _ => rfl)) pa_nil))) (pa_cons (pv 2) pa_nil)))) pa_nil)))))
      pss_nil)
    (pss_one (ps_ret (pv 3)))))), ?_⟩
  obtain ⟨a, ys, rfl, ha, hys, hyl, hzl⟩ := head_at hat
  obtain ⟨v0, ys0, rfl, b0, v1, ys1, rfl, b1, v2, ys2, rfl, b2, hn⟩ := hys
  cases (show ys2 = [] from hn)
  obtain ⟨p, zs, rfl, ep, hps⟩ := b1
  have hpl2 := ats_len hps
  have hzk : (Dd.tup (.str z :: [x, .tup rows, d])).sz = 1 + (1 + (x.sz + ((1 + Dd.szs rows) + (d.sz + 0)))) := rfl
  have hx0 := hin ([], x) (by rw [ei]; exact List.mem_cons_self ..)
  have mx : (([] : List Str), x) ∈ innerW z [x, .tup rows, d] := by rw [ei]; exact List.mem_cons_self ..
  refine ⟨_, rfl, a, _, 1, _, rfl, rfl, SqT.of ha, at1 _ _ _, _, rfl, _, rfl, v0, x, U, sc, gc, S, gs, rfl, b0, hx0.2, hdp' _ mx, hsz1 _ mx, ⟨h1, h2, by have := hzk; omega⟩, fun H1 s1 => ?_⟩
  refine ⟨_, rfl, a, _, 2, _, rfl, rfl, SqT.of (s1 _ _ ha), at2 _ _ _ _, p, rfl, ⟨_, SqT.of (s1 _ _ ep)⟩, ?_⟩
  have hrz := szs_len rows
  refine for_tup (a := p) (xs := zs) (fun i st G => ∃ v4 v5 : Option V, st = [some (.ref a), some (.ref sc), some (.ref gc), some (optV ((unk gs S x).or (((rows.take i).map fun q => (nsR z q, lastD q)).findSome? fun q => unk gs (S ++ q.1) q.2))), v4, v5] ∧ Same H G)
    ⟨_, _, by rw [List.take_zero, List.map_nil, List.findSome?_nil, Option.or_none]; rfl, s1⟩ (fun i st G _ ⟨_, _, _, h⟩ => SqT.of (h _ _ ep)) ?_ ?_
  · rintro i y st G hy ⟨v4, v5, rfl, sG⟩
    obtain ⟨q5, hq5, hqa⟩ := ats_get hps hy
    have hq5m := List.mem_of_getElem? hq5
    have mq : (nsR z q5, lastD q5) ∈ innerW z [x, .tup rows, d] := by
      rw [ei]
      exact List.mem_cons_of_mem _ (List.mem_append_left _ (List.mem_map.mpr ⟨q5, hq5m, rfl⟩))
    have hq5i := hin _ mq
    obtain ⟨m, rfl, hm1, hmc⟩ := hrl q5 hq5m
    obtain ⟨t2, us, rfl, ht2, hus⟩ := hqa
    have ht2G := sG _ _ ht2
    have husl := ats_len hus
    have hns : (nsR z (.tup m)).length + (lastD (.tup m)).sz ≤ Dd.szs rows := by
      unfold nsR
      by_cases e : z = "case"
      · rw [if_pos e]
        obtain ⟨t, ns, bb, em, en⟩ := hmc e
        subst em
        have g1 := szs_mem hq5m
        have g2 : (Dd.tup [t, nameT ns, bb]).sz = 1 + Dd.szs [t, nameT ns, bb] := rfl
        have g3 : Dd.szs [t, nameT ns, bb] = t.sz + ((1 + Dd.szs (ns.map Dd.str)) + (bb.sz + 0)) := rfl
        have g4 := szs_len (ns.map Dd.str)
        rw [List.length_map] at g4
        rw [← en]
        show ns.length + bb.sz ≤ _
        omega
      · rw [if_neg e]
        have g1 := szs_mem hq5m
        have g2 : (Dd.tup m).sz = 1 + Dd.szs m := rfl
        have g6 := szs_mem (last_mem hm1)
        show 0 + _ ≤ _
        omega
    refine ⟨_, rfl, ?_⟩
    refine ⟨fun st' G' => ∃ Ln : Addr, st' = [some (.ref a), some (.ref sc), some (.ref gc), some (optV ((unk gs S x).or (((rows.take i).map fun q => (nsR z q, lastD q)).findSome? fun q => unk gs (S ++ q.1) q.2))), some (.ref t2), some (.ref Ln)] ∧ Same H G' ∧ G' Ln = some (.lst ((S ++ nsR z (.tup m)).map V.str)), ?_, ?_⟩
    · refine ⟨_, rfl, a, _, 0, _, rfl, rfl, SqT.of (sG _ _ ha), at0 _ _, rfl, _, rfl, ?_⟩
      by_cases e : z = "case"
      · subst e
        show if decide (V.str "case" = V.str "case") = true then _ else _
        rw [wtt]
        refine iteT ?_
        obtain ⟨t, ns, bb, em, en⟩ := hmc rfl
        subst em
        obtain ⟨w0, us3, rfl, hw0, w1, us4, rfl, hw1, hus5⟩ := hus
        obtain ⟨u5, rfl, hu5, hu6⟩ := nameT_at hw1
        refine ⟨_, rfl, _, rfl, t2, _, 1, _, rfl, rfl, SqT.of ht2G, at1 _ _ _, u5, _, rfl, .inr (SqT.of (sG _ _ hu5)), fun l1 hl1 => ?_⟩
        have s2 := same_new hl1 (.lst (ns.map V.str))
        have en2 : nsR "case" (.tup [t, nameT ns, bb]) = ns := by unfold nsR; rw [if_pos rfl, ← en]
        rw [en2] at hns ⊢
        refine ⟨sc, l1, _, _, rfl, rfl, s2 _ _ (sG _ _ h1), upd_same, by rw [List.length_map, List.length_map]; omega, fun L2 hL2 => ?_⟩
        exact ⟨L2, rfl, sameT sG (sameT s2 (same_new hL2 _)), by rw [upd_same, List.map_append]⟩
      · show if decide (V.str z = V.str "case") = true then _ else _
        rw [wne e]
        refine iteF ?_
        refine ⟨sc, rfl, sG, ?_⟩
        unfold nsR
        rw [if_neg e, List.append_nil]
        exact sG _ _ h1
    rintro st' G' ⟨Ln, rfl, sG', eL⟩
    obtain ⟨vb, hvb, hvba⟩ := last_at (hus.keep (fr_same sG')) (by omega)
    refine ⟨_, rfl, _, rfl, _, rfl, t2, _, -1, _, rfl, rfl, SqT.of (sG' _ _ ht2), hvb, _, rfl, _, rfl, vb, lastD (.tup m), U, Ln, gc, S ++ nsR z (.tup m), gs, rfl, hvba, hq5i.2, hdp' _ mq, hsz1 _ mq, ⟨eL, sG' _ _ h2, by rw [List.length_append]; omega⟩, fun H2 s2 => ?_⟩
    refine ⟨_, _, rfl, ?_⟩
    refine ⟨some (.ref t2), some (.ref Ln), ?_, sameT sG' s2⟩
    have e1 : rows.take (i + 1) = rows.take i ++ [.tup m] := by rw [List.take_add_one, hq5]; rfl
    rw [e1, List.map_append, List.map_cons, List.map_nil, findSome_snoc, ← or_assoc3]
    rfl
  rintro st G ⟨v4, v5, rfl, sG⟩
  rw [hpl2, List.take_length]
  have fin : ∀ (o3 : Option Str) (H' : Hp), Same H H' → (dfI d).findSome? (fun q => unk gs (S ++ q.1) q.2) = o3 → Q (optV (((unk gs S x).or ((rows.map fun q => (nsR z q, lastD q)).findSome? fun q => unk gs (S ++ q.1) q.2)).or o3)) H' := fun o3 H' s' e => by
    have z9 := q H' s'
    rw [e] at z9
    exact z9
  refine ⟨_, rfl, a, _, 3, _, rfl, rfl, SqT.of (sG _ _ ha), at3 _ _ _ _ _, rfl, _, rfl, ?_⟩
  rcases dflt_cases hdf with rfl | ⟨n0, k1, rfl, hnm⟩
  · rw [show decide (v2 = V.non) = true from decide_eq_true (show v2 = .non from b2)]
    refine iteF ?_
    have z9 := fin none G sG rfl
    rw [Option.or_none] at z9
    exact ⟨_, rfl, z9⟩
  · obtain ⟨pd, w0, w1, rfl, epd, hw0, hw1⟩ := pair_at b2 rfl
    rw [show decide (V.ref pd = V.non) = false from decide_eq_false fun e => by cases e]
    refine iteT ?_
    obtain ⟨s0, rfl⟩ : ∃ s0, n0 = .str s0 := ⟨strOf n0, name_str hnm⟩
    obtain ⟨rfl, _⟩ := (show w0 = .str s0 ∧ _ from hw0)
    have md : ([s0], k1) ∈ innerW z [x, .tup rows, .tup [.str s0, k1]] := by
      rw [ei]
      exact List.mem_cons_of_mem _ (List.mem_append_right _ (List.mem_singleton.mpr rfl))
    have hqd := hin _ md
    have epG := sG _ _ epd
    refine ⟨_, rfl, _, rfl, a, _, 3, _, rfl, rfl, SqT.of (sG _ _ ha), at3 _ _ _ _ _, pd, _, 1, _, rfl, rfl, SqT.of epG, at1 _ _ _, _, rfl, _, rfl, a, _, 3, _, rfl, rfl, SqT.of (sG _ _ ha), at3 _ _ _ _ _, pd, _, 0, _, rfl, rfl, SqT.of epG, at0 _ _, by show 1 ≤ sizeLine; decide, fun l1 hl1 => ?_⟩
    have s2 := same_new hl1 (.lst [.str s0])
    refine ⟨sc, l1, _, _, rfl, rfl, s2 _ _ (sG _ _ h1), upd_same, by rw [List.length_map]; show _ + 1 ≤ _; omega, fun L2 hL2 => ?_⟩
    have s3 := same_new hL2 (.lst (S.map V.str ++ [.str s0]))
    have s23 := sameT s2 s3
    have sA := sameT sG s23
    refine ⟨_, rfl, w1, k1, U, L2, gc, S ++ [s0], gs, rfl, hw1.keep (fr_same sA), hqd.2, hdp' _ md, hsz1 _ md, ⟨by rw [upd_same, List.map_append]; rfl, sA _ _ h2, by rw [List.length_append]; have g7 : (Dd.tup [.str s0, k1]).sz = 1 + (1 + (k1.sz + 0)) := rfl; show _ + 1 + _ + _ ≤ _; omega⟩, fun H2 s4 => ?_⟩
    refine ⟨_, _, rfl, ?_⟩
    refine ⟨_, rfl, fin (unk gs (S ++ [s0]) k1) H2 (sameT sA s4) ?_⟩
    show (List.findSome? _ [([s0], k1)]) = _
    rw [List.findSome?_cons, List.findSome?_nil]
    cases unk gs (S ++ [s0]) k1 <;> rfl
end
end Toy

set_option Elab.async false
set_option linter.all false
set_option maxRecDepth 100000
set_option maxHeartbeats 8000000
/-! Part R6: the law's walk: a body. -/
namespace Toy
open PySem L2
open PyProof.Rows (envOfC)
theorem catA_tup {K : PySem.W.Frag} {H : Hp} {a b : Addr} {xs ys : List V} {Q : V → Hp → Prop} (ha : H a = some (.tup xs)) (hb : H b = some (.tup ys)) (hz : xs.length + ys.length ≤ sizeLine) (h : ∀ p H', Same H H' → H' p = some (.tup (xs ++ ys)) → Q (.ref p) H') : rCatA K (.ref a) (.ref b) H Q :=
  ⟨a, b, xs, ys, rfl, rfl, SqT.of ha, SqT.of hb, hz, fun e => h b H (fun _ _ e => e) (by rw [e]; exact hb), fun _ e => h a H (fun _ _ e => e) (by rw [e, List.append_nil]; exact ha), fun _ _ p hp => h p _ (same_new hp _) upd_same⟩
theorem inner_let (rows : List Dd) (y : Dd) : innerW "let" [.tup rows, y] = (rows.map fun q => (rows.map fun q => strOf (nth 0 q), nth 1 q)) ++ [(rows.map fun q => strOf (nth 0 q), y)] := by
  have key : ∀ (ns : List Str) (l : List Dd), (l.map (fun _ => ns) ++ [ns]).zip (l.map (nth 1) ++ [y]) = (l.map fun q => (ns, nth 1 q)) ++ [(ns, y)] := by
    intro ns l
    induction l with
    | nil => rfl
    | cons q l ih =>
      show (ns, nth 1 q) :: (l.map (fun _ => ns) ++ [ns]).zip (l.map (nth 1) ++ [y]) = (ns, nth 1 q) :: ((l.map fun q => (ns, nth 1 q)) ++ [(ns, y)])
      rw [ih]
  unfold innerW
  rw [if_neg (by decide +kernel), if_pos (by decide +kernel), sw_let, pw_let]
  exact key _ _
theorem inner_seq (n x y : Dd) : innerW "seq" [n, x, y] = [([], x), ([strOf n], y)] := by
  unfold innerW
  rw [if_neg (by decide +kernel), if_pos (by decide +kernel), sw_seq, pw_seq]
  rfl
theorem inner_note (n x : Dd) : innerW "note" [n, x] = [([], x)] := by
  unfold innerW
  rw [if_neg (by decide +kernel), if_pos (by decide +kernel), sw_note, pw_note]
  rfl
section
variable {P : Program} {w : World} {K : PySem.W.Frag} {mg : Str → Option Value} {base : Heap}
abbrev sUnk : Stmt := topS 62
theorem scUnk : FnScope ["body", "scope", "functions", "kind", "first", "member", "inner", "found", "name"] ["body", "scope", "functions"] (defScope sUnk) := ⟨rfl, rfl, rfl, by decide +kernel, rfl, by decide +kernel, by decide +kernel⟩
theorem c_unk {n : Nat} {f : Addr} {fd : FuncData} (c_law_unknown : C8.Cal P w K mg base (2 * n + 1) "_law_unknown" (spUnk true n) []) (c_law_unknown_member : C8.Cal P w K mg base (2 * n + 2) "_law_unknown_member" (spUnk false n) []) (c_law_unknown_rows : C8.Cal P w K mg base (2 * n + 2) "_law_unknown_rows" (spRows (n + 1)) []) (c_law_first : C8.Cal P w K mg base 1 "_law_first" spFirst []) (c_law_either : C8.Cal P w K mg base 1 "_law_either" spEither []) (F : Fun K "_law_unknown" "_law_unknown" sUnk f fd) (b : Binds K fd ["body", "scope", "functions"] []) (hm : mg "_law_unknown" = some (.ref f)) : C8.Cal P w K mg base (2 * n + 3) "_law_unknown" (spUnk true (n + 1)) [] := by
  refine cal_of F hm b scUnk (fun vs H Q E h => ?_) (fun cdv A outer s H vs Q E hr h => ?_)
  · obtain ⟨v, k, U, sc, gc, S, gs, rfl, _⟩ := h
    rfl
  obtain ⟨v, k, U, sc, gc, S, gs, rfl, hat, hgl, hdp0, hsz, ⟨h1, h2, h3⟩, q⟩ := h
  have hbig := big
  have hdp00 := hdp0
  obtain ⟨z, r, rfl, hpl, hat1, hdp⟩ := hdp0
  have q0 := q
  rw [unk_eq hgl] at q
  obtain ⟨z', r', ee, hao, hio, hatm, hmk, hin⟩ := gl_parts hgl
  have ee := Dd.tup.inj ee
  obtain ⟨ee1, ee2⟩ := List.cons.inj ee
  cases Dd.str.inj ee1
  cases ee2
  obtain ⟨np1, np2⟩ := (show z ≠ "later" ∧ z ≠ "part" from hpl)
  refine ⟨_, (pss_cons (ps_set (i := 3) scUnk.nd rfl (Or.inl rfl) (pe_ix ix_tup (pv 0) pe_int (fun _ _ => rfl)))
    (pss_cons (ps_if (pt_cmpR op_eq (pv 3) pe_str (nomark _))
      (pss_one (ps_ret (C8.pe_c c_law_first hr (by omega) rfl (pa_cons (pe_slice sl_tupA (pv 0) (po_some pe_int) po_none) (pa_cons (pe_op op_cat (pv 1) (pv 2)) pa_nil)))))
      pss_nil)
    (pss_cons (ps_if (pt_cmpR op_eq (pv 3) pe_str (nomark _))
      (pss_one (ps_ret (C8.pe_c c_law_first hr (by omega) rfl (pa_cons (pe_op op_catA (pe_tup (pa_cons (pe_ix ix_tup (pv 0) pe_int (fun _ _ => rfl)) pa_nil)) (pe_ix ix_tup (pv 0) pe_int (fun _ _ => rfl))) (pa_cons (pe_op op_cat (pv 1) (pv 2)) pa_nil)))))
      pss_nil)
    (pss_cons (ps_if (pt_cmpR op_eq (pv 3) pe_str (nomark _))
      (pss_one (ps_ret (C8.pe_c c_law_first hr (by omega) rfl (pa_cons (pe_ix ix_tup (pv 0) pe_int (fun _ _ => rfl)) (pa_cons (pe_op op_cat (pv 1) (pv 2)) pa_nil)))))
      pss_nil)
    (pss_cons (ps_if (pt_cmpR op_eq (pv 3) pe_str (nomark _))
      (pss_one (ps_ret (C8.pe_c c_law_first hr (by omega) rfl (pa_cons (pe_slice sl_tupA (pv 0) (po_some pe_int) po_none) (pa_cons (pe_op op_cat (pv 1) (pv 2)) pa_nil)))))
      pss_nil)
    (pss_cons (ps_if (pt_cmpR op_eq (pv 3) pe_str (nomark _))
      (pss_one (ps_ret (C8.pe_c c_law_unknown hr (by omega) rfl (pa_cons (pe_ix ix_tup (pv 0) pe_int (fun _ _ => rfl)) (pa_cons (pv 1) (pa_cons (pv 2) pa_nil))))))
      pss_nil)
    (pss_cons (ps_if (pt_cmpR op_eq (pv 3) pe_str (nomark _))
      (pss_cons (ps_set (i := 4) scUnk.nd rfl (Or.inl rfl) (C8.pe_c c_law_unknown hr (by omega) rfl (pa_cons (pe_ix ix_tup (pv 0) pe_int (fun _ _ => rfl)) (pa_cons (pv 1) (pa_cons (pv 2) pa_nil)))))
    (pss_one (ps_ret (C8.pe_c c_law_either hr (by omega) rfl (pa_cons (pv 4) (pa_cons (C8.pe_c c_law_unknown hr (by omega) rfl (pa_cons (pe_ix ix_tup (pv 0) pe_int (fun _ _ => rfl)) (pa_cons (pe_op op_cat (pv 1) (pe_lst (pa_cons (pe_ix ix_tup (pv 0) pe_int (fun _ _ => rfl)) pa_nil))) (pa_cons (pv 2) pa_nil)))) pa_nil))))))
      pss_nil)
    (pss_cons (ps_if (pt_cmpR op_eq (pv 3) pe_str (nomark _))
      (pss_cons (ps_set (i := 6) scUnk.nd rfl (Or.inl rfl) (pe_op op_cat (pv 1) (pe_lc (own := [("member", 5)]) (g := gName 5) (tt := tYes) (te := (tOp (rIxT K) (tVar 5) (tC (.int 0)))) rfl scUnk.nd (pi_tup (pe_ix ix_tup (pv 0) pe_int (fun _ _ => rfl))) (blkOk_by (own := [("member", 5)]) (N := ["body", "scope", "functions", "kind", "first", "member", "inner", "found", "name"]) (sc := defScope sUnk) (by decide +kernel)) (fun _ _ _ _ _ => (pg_name (i := 5) scUnk.nd rfl (Or.inl rfl))) (fun _ _ _ _ _ => pts_nil) (fun _ _ _ _ _ => (pe_ix ix_tup (pv 5) pe_int (fun _ _ => rfl))))))
    (pss_cons (ps_set (i := 7) scUnk.nd rfl (Or.inl rfl) pe_non)
    (pss_cons (ps_for PassesOwn.never rfl (pi_tup (pe_ix ix_tup (pv 0) pe_int (fun _ _ => rfl))) (pg_tup rfl (pgs_cons (pg_name (i := 8) scUnk.nd rfl (Or.inl rfl)) (pgs_cons (pg_name (i := 5) scUnk.nd rfl (Or.inl rfl)) pgs_nil)))
      (pss_one (ps_set (i := 7) scUnk.nd rfl (Or.inl rfl) (C8.pe_c c_law_either hr (by omega) rfl (pa_cons (pv 7) (pa_cons (C8.pe_c c_law_unknown_member hr (by omega) rfl (pa_cons (pv 5) (pa_cons (pv 6) (pa_cons (pv 2) pa_nil)))) pa_nil))))))
    (pss_one (ps_ret (C8.pe_c c_law_either hr (by omega) rfl (pa_cons (pv 7) (pa_cons (C8.pe_c c_law_unknown hr (by omega) rfl (pa_cons (pe_ix ix_tup (pv 0) pe_int (fun _ _ => rfl)) (pa_cons (pv 6) (pa_cons (pv 2) pa_nil)))) pa_nil))))))))
      pss_nil)
    (pss_one (ps_ret (C8.pe_c c_law_unknown_rows hr (by omega) rfl (pa_cons (pv 0) (pa_cons (pv 1) (pa_cons (pv 2) pa_nil)))))))))))))), ?_⟩
  have hat0 := hat
  obtain ⟨a, ys, rfl, ha, hys, hyl, hzl⟩ := head_at hat
  have hyl2 := ats_len hys
  refine ⟨_, rfl, a, _, 0, _, rfl, rfl, SqT.of ha, at0 _ _, ?_⟩
  show gName 3 (V.str z) _ _ _
  have hobL : opsBad (inS S) (inS gs) z r = badL (inS (S ++ gs)) noF (atomsW z r) := by
    unfold opsBad
    rw [if_neg np1, if_neg np2, badL_app]
  -- words with atoms only
  have leaf : innerW z r = [] → ∀ (xs : List V) (u Ln : Addr) (G : Hp), Same H G → G u = some (.tup xs) → Dd.Ats F0 G (atomsW z r) xs → G Ln = some (.lst (S.map V.str ++ gs.map V.str)) → spFirst [.ref u, .ref Ln] G (fun v' H' => Q v' H') E := fun ei xs u Ln G sG eu hA eL => by
    refine ⟨u, Ln, xs, atomsW z r, S ++ gs, rfl, eu, hA, hatm, by rw [eL, List.map_append], fun H' s' => ?_⟩
    have z9 := q H' (sameT sG s')
    rw [ei, List.findSome?_nil, Option.or_none, hobL] at z9
    exact z9
  refine ⟨_, rfl, rfl, _, rfl, ?_⟩
  by_cases c1 : z = "atom"
  · subst c1
    show if decide (V.str "atom" = V.str "atom") = true then _ else _
    rw [wtt]
    refine iteT ?_
    have hr1 := hat1 rfl
    obtain ⟨x0, rfl⟩ : ∃ x0, r = [x0] := by
      match r, hr1 with
      | [x0], _ => exact ⟨x0, rfl⟩
    have ea : atomsW "atom" [x0] = [x0] := by unfold atomsW; rw [if_pos rfl]; rfl
    refine ⟨_, rfl, _, rfl, a, _, rfl, SqT.of ha, fun h => absurd h.1 (cut_no1 1 _ _ (by rw [List.length_cons]; omega)), fun _ u hu => ?_⟩
    rw [show cutV (V.str "atom" :: ys) (some 1) none = ys from cut_from (.str "atom" :: ys) 1 (by rw [List.length_cons]; omega)]
    have s0 := same_new hu (.tup ys)
    refine ⟨_, rfl, _, rfl, sc, gc, _, _, rfl, rfl, s0 _ _ h1, s0 _ _ h2, by rw [List.length_map, List.length_map]; omega, fun Ln hLn => ?_⟩
    have s1 := same_new hLn (.lst (S.map V.str ++ gs.map V.str))
    exact leaf (by unfold innerW; rw [if_neg (by decide +kernel), if_neg (by decide +kernel)]) _ u Ln _ (sameT s0 s1) (s1 _ _ upd_same) (by rw [ea]; exact hys.keep (fr_same (sameT s0 s1))) upd_same
  show if decide (V.str z = V.str "atom") = true then _ else _
  rw [wne c1]
  refine iteF ?_
  refine ⟨_, rfl, rfl, _, rfl, ?_⟩
  by_cases c2 : z = "call"
  · subst c2
    show if decide (V.str "call" = V.str "call") = true then _ else _
    rw [wtt]
    refine iteT ?_
    obtain ⟨hl2, htu⟩ := hao.2.1 (.inl rfl)
    obtain ⟨x1, hx1, hxa1⟩ := arg_at (v0 := .str "call") hys (i := 0) (by omega)
    obtain ⟨x2, hx2, hxa2⟩ := arg_at (v0 := .str "call") hys (i := 1) (by omega)
    have hz2 := arg_sz (w := "call") (r := r) 1
    rw [dd_tup htu] at hxa2 hz2
    have hz2 : 1 + Dd.szs (tl (arg 1 r)) ≤ _ := hz2
    obtain ⟨p, zs, rfl, ep, hps⟩ := hxa2
    have hpl := ats_len hps
    have hlz := szs_len (tl (arg 1 r))
    have ea : atomsW "call" r = arg 0 r :: tl (arg 1 r) := by unfold atomsW; rw [if_neg (by decide +kernel), if_pos rfl]
    refine ⟨_, rfl, a, _, 1, _, rfl, rfl, SqT.of ha, hx1, by show 1 ≤ sizeLine; decide, fun u hu => ?_⟩
    have s0 := same_new hu (.tup [x1])
    refine ⟨_, rfl, a, _, 2, _, rfl, rfl, SqT.of (s0 _ _ ha), hx2, catA_tup upd_same (s0 _ _ ep) (by show 1 + _ ≤ _; omega) fun u2 G2 s2 e2 => ?_⟩
    have s02 := sameT s0 s2
    refine ⟨_, rfl, _, rfl, sc, gc, _, _, rfl, rfl, s02 _ _ h1, s02 _ _ h2, by rw [List.length_map, List.length_map]; omega, fun Ln hLn => ?_⟩
    have s1 := same_new hLn (.lst (S.map V.str ++ gs.map V.str))
    exact leaf (by unfold innerW; rw [if_neg (by decide +kernel), if_neg (by decide +kernel)]) _ u2 Ln _ (sameT s02 s1) (s1 _ _ e2) (by rw [ea]; exact ats_cons (hxa1.keep (fr_same (sameT s02 s1))) (hps.keep (fr_same (sameT s02 s1)))) upd_same
  show if decide (V.str z = V.str "call") = true then _ else _
  rw [wne c2]
  refine iteF ?_
  refine ⟨_, rfl, rfl, _, rfl, ?_⟩
  by_cases c3 : z = "con"
  · subst c3
    show if decide (V.str "con" = V.str "con") = true then _ else _
    rw [wtt]
    refine iteT ?_
    obtain ⟨hl2, htu⟩ := hao.2.1 (.inr (.inl rfl))
    obtain ⟨x2, hx2, hxa2⟩ := arg_at (v0 := .str "con") hys (i := 1) (by omega)
    rw [dd_tup htu] at hxa2
    obtain ⟨p, zs, rfl, ep, hps⟩ := hxa2
    have ea : atomsW "con" r = tl (arg 1 r) := by unfold atomsW; rw [if_neg (by decide +kernel), if_neg (by decide +kernel), if_pos (.inl rfl)]
    refine ⟨_, rfl, a, _, 2, _, rfl, rfl, SqT.of ha, hx2, _, rfl, _, rfl, sc, gc, _, _, rfl, rfl, h1, h2, by rw [List.length_map, List.length_map]; omega, fun Ln hLn => ?_⟩
    have s1 := same_new hLn (.lst (S.map V.str ++ gs.map V.str))
    exact leaf (by unfold innerW; rw [if_neg (by decide +kernel), if_neg (by decide +kernel)]) zs p Ln _ s1 (s1 _ _ ep) (by rw [ea]; exact hps.keep (fr_same s1)) upd_same
  show if decide (V.str z = V.str "con") = true then _ else _
  rw [wne c3]
  refine iteF ?_
  refine ⟨_, rfl, rfl, _, rfl, ?_⟩
  by_cases c4 : z = "prim"
  · subst c4
    show if decide (V.str "prim" = V.str "prim") = true then _ else _
    rw [wtt]
    refine iteT ?_
    have hr3 := hmk.2.1 rfl
    have ea : atomsW "prim" r = r.drop 1 := by unfold atomsW; rw [if_neg (by decide +kernel), if_neg (by decide +kernel), if_neg (by decide +kernel), if_pos rfl]
    refine ⟨_, rfl, _, rfl, a, _, rfl, SqT.of ha, fun h => absurd h.1 (cut_no1 2 _ _ (by rw [List.length_cons]; omega)), fun _ u hu => ?_⟩
    rw [show cutV (V.str "prim" :: ys) (some 2) none = ys.drop 1 from cut_from (.str "prim" :: ys) 2 (by rw [List.length_cons]; omega)]
    have s0 := same_new hu (.tup (ys.drop 1))
    refine ⟨_, rfl, _, rfl, sc, gc, _, _, rfl, rfl, s0 _ _ h1, s0 _ _ h2, by rw [List.length_map, List.length_map]; omega, fun Ln hLn => ?_⟩
    have s1 := same_new hLn (.lst (S.map V.str ++ gs.map V.str))
    exact leaf (by unfold innerW; rw [if_neg (by decide +kernel), if_neg (by decide +kernel)]) _ u Ln _ (sameT s0 s1) (s1 _ _ upd_same) (by rw [ea]; exact (ats_drop hys).keep (fr_same (sameT s0 s1))) upd_same
  show if decide (V.str z = V.str "prim") = true then _ else _
  rw [wne c4]
  refine iteF ?_
  refine ⟨_, rfl, rfl, _, rfl, ?_⟩
  have hw5 : z = "note" ∨ z = "seq" ∨ z = "let" ∨ z = "case" ∨ z = "pick" := by
    have h9 := hmk.1
    simp only [thingWords, List.mem_cons, List.not_mem_nil, or_false] at h9
    rcases h9 with e | e | e | e | e | e | e | e | e | e | e
    · exact (c1 e).elim
    · exact (c2 e).elim
    · exact (c3 e).elim
    · exact (c4 e).elim
    · exact .inr (.inr (.inl e))
    · exact .inr (.inl e)
    · exact .inr (.inr (.inr (.inl e)))
    · exact .inr (.inr (.inr (.inr e)))
    · exact .inl e
    · exact (np1 e).elim
    · exact (np2 e).elim
  have hcw : z ∈ coreWords := by rcases hw5 with e | e | e | e | e <;> subst e <;> decide +kernel
  have hf := hio.2 hcw
  have hob : opsBad (inS S) (inS gs) z r = none := by
    have ea : atomsW z r = [] := by
      unfold atomsW
      rw [if_neg c1, if_neg c2, if_neg (by rintro (e | e); exact c3 e; exact np2 e), if_neg c4]
    rw [hobL, ea]
    rfl
  have hinz := inner_sz hio
  have hsz1 : ∀ q ∈ innerW z r, q.2.sz < (Dd.tup (.str z :: r)).sz := fun q hq => by
    have := szs_mem (List.mem_map.mpr ⟨q, hq, rfl⟩ : q.2 ∈ (innerW z r).map (·.2))
    omega
  rw [hob] at q
  have q : ∀ H', Same H H' → Q (optV ((innerW z r).findSome? fun q => unk gs (S ++ q.1) q.2)) H' := fun H' s' => q H' s'
  by_cases c5 : z = "note"
  · subst c5
    show if decide (V.str "note" = V.str "note") = true then _ else _
    rw [wtt]
    refine iteT ?_
    rw [fw_note] at hf
    obtain ⟨n0, x, rfl⟩ := len2 (of_decide_eq_true (fand hf).1)
    have ei := inner_note n0 x
    have mx : (([] : List Str), x) ∈ innerW "note" [n0, x] := by rw [ei]; exact List.mem_cons_self ..
    obtain ⟨y, hy, hya⟩ := arg_at (v0 := .str "note") hys (i := 1) (by show 1 < 2; decide)
    have hzx : x.sz < (Dd.tup (.str "note" :: [n0, x])).sz := hsz1 _ mx
    have hd := hdp 0 ([], x) (by rw [ei]; rfl)
    refine ⟨_, rfl, a, _, 2, _, rfl, rfl, SqT.of ha, hy, _, rfl, _, rfl, y, x, U, sc, gc, S, gs, rfl, hya, (hin _ mx).2, hd, by omega, ⟨h1, h2, by omega⟩, fun H' s' => ?_⟩
    have z9 := q H' s'
    rw [ei, List.findSome?_cons, List.findSome?_nil, List.append_nil] at z9
    cases e9 : unk gs S x with
    | none => rw [e9] at z9; exact z9
    | some o => rw [e9] at z9; exact z9
  show if decide (V.str z = V.str "note") = true then _ else _
  rw [wne c5]
  refine iteF ?_
  refine ⟨_, rfl, rfl, _, rfl, ?_⟩
  by_cases c6 : z = "seq"
  · subst c6
    show if decide (V.str "seq" = V.str "seq") = true then _ else _
    rw [wtt]
    refine iteT ?_
    rw [fw_seq] at hf
    obtain ⟨n0, x, y, rfl⟩ := len3 (of_decide_eq_true (fand hf).1)
    obtain ⟨s0, rfl⟩ : ∃ s0, n0 = .str s0 := ⟨strOf n0, name_str (fand hf).2⟩
    have ei := inner_seq (.str s0) x y
    have mx : (([] : List Str), x) ∈ innerW "seq" [.str s0, x, y] := by rw [ei]; exact List.mem_cons_self ..
    have my : (([s0] : List Str), y) ∈ innerW "seq" [.str s0, x, y] := by rw [ei]; exact List.mem_cons_of_mem _ (List.mem_singleton.mpr rfl)
    obtain ⟨w0, ys0, rfl, b0, w1, ys1, rfl, b1, w2, ys2, rfl, b2, hn⟩ := hys
    cases (show ys2 = [] from hn)
    obtain ⟨rfl, _⟩ := (show w0 = .str s0 ∧ _ from b0)
    have hdx := hdp 0 ([], x) (by rw [ei]; rfl)
    have hdy := hdp 1 ([s0], y) (by rw [ei]; rfl)
    have hzx := hsz1 _ mx
    have hzy := hsz1 _ my
    have hzk : (Dd.tup (.str "seq" :: [.str s0, x, y])).sz = 1 + (1 + (1 + (x.sz + (y.sz + 0)))) := rfl
    refine ⟨_, rfl, a, _, 2, _, rfl, rfl, SqT.of ha, at2 _ _ _ _, _, rfl, _, rfl, w1, x, U, sc, gc, S, gs, rfl, b1, (hin _ mx).2, hdx, by omega, ⟨h1, h2, by omega⟩, fun H1 s1 => ?_⟩
    refine ⟨_, rfl, _, rfl, a, _, 3, _, rfl, rfl, SqT.of (s1 _ _ ha), at3 _ _ _ _ _, _, rfl, _, rfl, a, _, 1, _, rfl, rfl, SqT.of (s1 _ _ ha), at1 _ _ _, by show 1 ≤ sizeLine; decide, fun l1 hl1 => ?_⟩
    have s2 := same_new hl1 (.lst [.str s0])
    refine ⟨sc, l1, _, _, rfl, rfl, s2 _ _ (s1 _ _ h1), upd_same, by rw [List.length_map]; show _ + 1 ≤ _; omega, fun L2 hL2 => ?_⟩
    have s3 := same_new hL2 (.lst (S.map V.str ++ [.str s0]))
    have sA := sameT s1 (sameT s2 s3)
    refine ⟨_, rfl, w2, y, U, L2, gc, S ++ [s0], gs, rfl, b2.keep (fr_same sA), (hin _ my).2, hdy, by omega, ⟨by rw [upd_same, List.map_append]; rfl, sA _ _ h2, by rw [List.length_append]; show _ + 1 + _ + _ ≤ _; omega⟩, fun H2 s4 => ?_⟩
    refine ⟨_, _, rfl, ?_⟩
    have z9 := q H2 (sameT sA s4)
    rw [ei] at z9
    have e9 : ([(([] : List Str), x), ([s0], y)].findSome? fun q => unk gs (S ++ q.1) q.2) = (unk gs S x).or (unk gs (S ++ [s0]) y) := by
      rw [List.findSome?_cons, List.append_nil, List.findSome?_cons, List.findSome?_nil]
      cases unk gs S x with
      | none => cases unk gs (S ++ [s0]) y <;> rfl
      | some o => rfl
    rw [show strOf (.str s0) = s0 from rfl, e9] at z9
    exact z9
  show if decide (V.str z = V.str "seq") = true then _ else _
  rw [wne c6]
  refine iteF ?_
  refine ⟨_, rfl, rfl, _, rfl, ?_⟩
  by_cases c7 : z = "let"
  · subst c7
    show if decide (V.str "let" = V.str "let") = true then _ else _
    rw [wtt]
    refine iteT ?_
    rw [fw_let] at hf
    obtain ⟨g1, g2⟩ := fand hf
    obtain ⟨g1, g3⟩ := fand g1
    obtain ⟨r0, y, rfl⟩ := len2 (of_decide_eq_true g1)
    obtain ⟨rows, er, hrows⟩ := rows_are (show areRows 2 r0 = true from g3)
    subst er
    have hnames : ∀ q ∈ rows, isName (nth 0 q) = true := fun q hq => by
      have g4 : areNames (.tup (rows.map (nth 0))) = true := (fand g2).2
      exact List.all_eq_true.mp (fand g4).1 _ (List.mem_map.mpr ⟨q, hq, rfl⟩)
    generalize ens : (rows.map fun q => strOf (nth 0 q)) = ns
    have ei : innerW "let" [.tup rows, y] = (rows.map fun q => (ns, nth 1 q)) ++ [(ns, y)] := by rw [inner_let, ens]
    have hnl : ns.length = rows.length := by rw [← ens, List.length_map]
    have hzk : (Dd.tup (.str "let" :: [.tup rows, y])).sz = 1 + (1 + ((1 + Dd.szs rows) + (y.sz + 0))) := rfl
    have hrz := szs_len rows
    have row_sz : ∀ q ∈ rows, ns.length + (nth 1 q).sz ≤ Dd.szs rows + 1 := by
      have key : ∀ l : List Dd, (∀ q ∈ l, ∃ m, q = .tup m ∧ m.length = 2) → ∀ q ∈ l, l.length + (nth 1 q).sz ≤ Dd.szs l + 1 := by
        intro l
        induction l with
        | nil => intro _ q h; cases h
        | cons p l ih =>
          intro hl q hq
          obtain ⟨m, rfl, hm⟩ := hl p (List.mem_cons_self ..)
          obtain ⟨t, u, rfl⟩ := len2 hm
          have e1 : Dd.szs (.tup [t, u] :: l) = (1 + (t.sz + (u.sz + 0))) + Dd.szs l := rfl
          have e2 := sz_pos t
          have e3 := sz_pos u
          have e4 := szs_len l
          rcases List.mem_cons.mp hq with e | e
          · rw [e, List.length_cons]
            show _ + 1 + u.sz ≤ _
            omega
          · have := ih (fun q h => hl q (List.mem_cons_of_mem _ h)) q e
            rw [List.length_cons]
            omega
      intro q hq
      rw [hnl]
      exact key rows hrows q hq
    obtain ⟨w0, ys0, rfl, b0, w1, ys1, rfl, b1, hn⟩ := hys
    cases (show ys1 = [] from hn)
    obtain ⟨p, zs, rfl, ep, hps⟩ := b0
    have hpl := ats_len hps
    refine ⟨_, rfl, _, rfl, a, _, 1, _, rfl, rfl, SqT.of ha, at1 _ _ _, p, rfl, ⟨_, SqT.of ep⟩, fun D hD => ?_⟩
    refine lc_tup (a := p) (xs := zs) (fun i G => Same H G ∧ G D = some (.lst ((ns.take i).map V.str))) ⟨same_new hD _, by rw [List.take_zero]; exact upd_same⟩ (fun i G _ ⟨h, _⟩ => SqT.of (h _ _ ep)) ?_ ?_
    · rintro i x G hx ⟨sG, eD⟩
      obtain ⟨q5, hq5, hqa⟩ := ats_get hps hx
      have hq5m := List.mem_of_getElem? hq5
      obtain ⟨m, rfl, hm⟩ := hrows q5 hq5m
      obtain ⟨t, u, rfl⟩ := len2 hm
      obtain ⟨s0, hs0⟩ : ∃ s0, t = .str s0 := ⟨strOf t, name_str (hnames _ hq5m)⟩
      subst hs0
      obtain ⟨t2, w2, w3, rfl, et2, hw2, hw3⟩ := pair_at hqa rfl
      obtain ⟨rfl, _⟩ := (show w2 = .str s0 ∧ _ from hw2)
      have hni : ns[i]? = some s0 := by rw [← ens, List.getElem?_map, hq5]; rfl
      refine ⟨rfl, ?_⟩
      refine tYes_if ?_
      refine ⟨_, rfl, t2, _, 0, _, rfl, rfl, SqT.of (sG _ _ et2), at0 _ _, _, eD, by rw [List.length_map, List.length_take]; omega, same_upd hD sG _, ?_⟩
      rw [upd_same, List.take_add_one, hni, List.map_append]
      rfl
    rintro G1 ⟨s1, eD⟩
    rw [hpl, ← hnl, List.take_length] at eD
    refine ⟨sc, D, _, _, rfl, rfl, s1 _ _ h1, eD, by rw [List.length_map, List.length_map]; omega, fun L2 hL2 => ?_⟩
    have s2 := same_new hL2 (.lst (S.map V.str ++ ns.map V.str))
    have s12 := sameT s1 s2
    have eL : upd G1 L2 (.lst (S.map V.str ++ ns.map V.str)) L2 = some (.lst ((S ++ ns).map V.str)) := by rw [upd_same, List.map_append]
    generalize upd G1 L2 (.lst (S.map V.str ++ ns.map V.str)) = G2 at s2 s12 eL ⊢
    refine ⟨_, rfl, a, _, 1, _, rfl, rfl, SqT.of (s12 _ _ ha), at1 _ _ _, p, rfl, ⟨_, SqT.of (s12 _ _ ep)⟩, ?_⟩
    refine for_tup (a := p) (xs := zs) (fun i st G => ∃ v5 v8 : Option V, st = [some (.ref a), some (.ref sc), some (.ref gc), some (.str "let"), none, v5, some (.ref L2), some (optV ((rows.take i).findSome? fun q => unk gs (S ++ ns) (nth 1 q))), v8] ∧ Same G2 G) ⟨_, _, rfl, fun _ _ e => e⟩ (fun i st G _ ⟨_, _, _, h⟩ => SqT.of (h _ _ (s12 _ _ ep))) ?_ ?_
    · rintro i x st G hx ⟨v5, v8, rfl, sG⟩
      obtain ⟨q5, hq5, hqa⟩ := ats_get hps hx
      have hq5m := List.mem_of_getElem? hq5
      have hil := (List.getElem?_eq_some_iff.mp hq5).1
      have mq : (ns, nth 1 q5) ∈ innerW "let" [.tup rows, y] := by rw [ei]; exact List.mem_append_left _ (List.mem_map.mpr ⟨q5, hq5m, rfl⟩)
      have hrs := row_sz q5 hq5m
      have hdq := hdp i (ns, nth 1 q5) (by rw [ei, List.getElem?_append_left (by rw [List.length_map]; exact hil), List.getElem?_map, hq5]; rfl)
      have hlen : (innerW "let" [.tup rows, y]).length = rows.length + 1 := by rw [ei, List.length_append, List.length_map]; rfl
      rw [hlen, decide_eq_true rfl, decide_eq_true (show i + 1 < rows.length + 1 by omega)] at hdq
      obtain ⟨m, rfl, hm⟩ := hrows q5 hq5m
      obtain ⟨t, u, rfl⟩ := len2 hm
      obtain ⟨t2, w2, w3, rfl, et2, hw2, hw3⟩ := pair_at hqa rfl
      have sH := sameT s12 sG
      have hgq := (hin _ mq).2
      have hzq : u.sz < _ := hsz1 _ mq
      have hrs : ns.length + u.sz ≤ Dd.szs rows + 1 := hrs
      refine ⟨t2, _, rfl, SqT.of (sH _ _ et2), rfl, _, _, rfl, _, _, rfl, rfl, ?_⟩
      refine ⟨_, rfl, _, rfl, _, rfl, _, rfl, w3, u, U, L2, gc, S ++ ns, gs, rfl, hw3.keep (fr_same sH), hgq, hdq, by omega, ⟨sG _ _ eL, sH _ _ h2, by rw [List.length_append]; omega⟩, fun H2 s4 => ?_⟩
      refine ⟨_, _, rfl, ?_⟩
      refine ⟨some w3, some w2, ?_, sameT sG s4⟩
      rw [show rows.take (i + 1) = rows.take i ++ [.tup [t, u]] by rw [List.take_add_one, hq5]; rfl, findSome_snoc]
      rfl
    rintro st G ⟨v5, v8, rfl, sG⟩
    rw [hpl, List.take_length]
    have my : (ns, y) ∈ innerW "let" [.tup rows, y] := by rw [ei]; exact List.mem_append_right _ (List.mem_singleton.mpr rfl)
    have hlen : (innerW "let" [.tup rows, y]).length = rows.length + 1 := by rw [ei, List.length_append, List.length_map]; rfl
    have hdy := hdp rows.length (ns, y) (by rw [ei, List.getElem?_append_right (by rw [List.length_map]; exact Nat.le_refl _), List.length_map, Nat.sub_self]; rfl)
    rw [hlen, decide_eq_false (show ¬ rows.length + 1 < rows.length + 1 by omega), Bool.and_false] at hdy
    have sH := sameT s12 sG
    refine ⟨_, rfl, _, rfl, a, _, 2, _, rfl, rfl, SqT.of (sH _ _ ha), at2 _ _ _ _, _, rfl, _, rfl, w1, y, U, L2, gc, S ++ ns, gs, rfl, b1.keep (fr_same sH), (hin _ my).2, hdy, by omega, ⟨sG _ _ eL, sH _ _ h2, by rw [List.length_append]; omega⟩, fun H2 s4 => ?_⟩
    refine ⟨_, _, rfl, ?_⟩
    have z9 := q H2 (sameT sH s4)
    have e9 : ((innerW "let" [.tup rows, y]).findSome? fun q => unk gs (S ++ q.1) q.2) = (rows.findSome? fun q => unk gs (S ++ ns) (nth 1 q)).or (unk gs (S ++ ns) y) := by
      rw [ei, findSome_snoc, List.findSome?_map]
      rfl
    rw [e9] at z9
    exact z9
  show if decide (V.str z = V.str "let") = true then _ else _
  rw [wne c7]
  refine iteF ?_
  have hcp : z = "case" ∨ z = "pick" := by
    rcases hw5 with e | e | e | e | e
    · exact (c5 e).elim
    · exact (c6 e).elim
    · exact (c7 e).elim
    · exact .inl e
    · exact .inr e
  exact ⟨_, rfl, _, rfl, _, rfl, .ref a, z, r, U, sc, gc, S, gs, rfl, hcp, hat0, hgl, hdp00, hsz, ⟨h1, h2, h3⟩, q0⟩
end
end Toy

set_option Elab.async false
set_option linter.all false
set_option maxRecDepth 100000
set_option maxHeartbeats 8000000
/-! Part S6: what the law expects. -/
namespace Toy
open PySem L2
open PyProof.Rows (envOfC)
inductive Told
  | unk (z : Str)
  | arity (z : Str)
  | code
def Told.D : Told → Dd
  | .unk z => .tup [.str "unknown", .str z]
  | .arity z => .tup [.str "arity", .str z]
  | .code => .tup [.str "code", .int 0]
def exp2 (m : Str) : List FnT → Told
  | [] => .unk m
  | q :: fs => if q.1 = m then (if q.2.1 = [] then .code else .arity m) else exp2 m fs
def expT (fs : List FnT) (m : Str) : Told :=
  match fs.findSome? fun q => unk (fs.map (·.1)) q.2.1 q.2.2 with
  | some z => .unk z
  | none => exp2 m fs
theorem strs_dp {K : PySem.W.Frag} {H : Hp} : ∀ ks : List Str, DpAll K H (ks.map V.str) (ks.map PyData.str)
  | [] => .nil
  | s :: ks => .cons (.str s) (strs_dp ks)
theorem strs_lay : ∀ ks : List Str, (∀ k ∈ ks, PyData.strOk k = true) → PyData.canLayAll0 (ks.map PyData.str) = true
  | [], _ => by simp [PyData.canLayAll0]
  | s :: ks, h => by
    have z := strs_lay ks fun k hk => h k (List.mem_cons_of_mem _ hk)
    have z2 : PyData.strOk s = true := h s (List.mem_cons_self ..)
    simp [PyData.canLayAll0, PyData.canLay0, z, z2]
theorem strs_depth : ∀ ks : List Str, PyData.depthAll (ks.map PyData.str) ≤ 1
  | [] => by simp [PyData.depthAll]
  | s :: ks => by
    have z := strs_depth ks
    simp [PyData.depthAll, PyData.depth]
    omega
theorem strsT_shaped {ks : List Str} (h : ∀ k ∈ ks, PyData.strOk k = true) : SeqAt.shaped (.tuple (ks.map PyData.str)) = true := by
  have z := strs_lay ks h
  have z2 := strs_depth ks
  unfold SeqAt.shaped
  rw [Bool.and_eq_true]
  refine ⟨by simp [PyData.canLay0, z], decide_eq_true ?_⟩
  have z3 : (PyData.tuple (ks.map PyData.str)).depth ≤ 1 + PyData.depthAll (ks.map PyData.str) := by simp [PyData.depth]; omega
  omega
theorem strsT_nil {ks : List Str} : PyData.eqv (.tuple (ks.map PyData.str)) (.tuple []) = decide (ks = []) := by
  cases ks with
  | nil => simp [PyData.eqv, PyData.eqvAll]
  | cons x r => simp [PyData.eqv, PyData.eqvAll]
theorem exp2_skip {m : Str} : ∀ {l r : List FnT}, (∀ q ∈ l, q.1 ≠ m) → exp2 m (l ++ r) = exp2 m r
  | [], _, _ => rfl
  | q :: l, r, h => by
    show (if q.1 = m then _ else exp2 m (l ++ r)) = _
    rw [if_neg (h q (List.mem_cons_self ..))]
    exact exp2_skip fun p hp => h p (List.mem_cons_of_mem _ hp)
structure TxtEx (mg : Str → Option Value) : Prop where
  zlist : mg "list" = none
section
variable {P : Program} {w : World} {K : PySem.W.Frag} {mg : Str → Option Value} {base : Heap}
abbrev sExpected : Stmt := topS 63
theorem scExpected : FnScope ["functions", "main", "names", "name", "params", "body", "found", "function"] ["functions", "main"] (defScope sExpected) := ⟨rfl, rfl, rfl, by decide +kernel, rfl, by decide +kernel, by decide +kernel⟩
def spExpected (n : Nat) : Sp := fun vs H Q _ => ∃ (fa : Addr) (xs : List V) (fs : List FnT) (m : Str) (U : List Str), vs = [.ref fa, .str m] ∧ H fa = some (.lst xs) ∧ Dd.Ats F0 H (fs.map fnD) xs ∧ FnsOk fs U ∧ (∀ q ∈ fs, DpT n true q.2.2 ∧ ∀ s ∈ q.2.1, PyData.strOk s = true) ∧ (∀ q ∈ fs, ∀ z, unk (fs.map (·.1)) q.2.1 q.2.2 = some z → z.length ≤ 1000) ∧ m.length ≤ 1000 ∧ ∀ v' H', Same H H' → (expT fs m).D.At F0 H' v' → Q v' H'
theorem c_expected {n : Nat} {f : Addr} {fd : FuncData} (T : TxtEx mg) (c_law_unknown : C8.Cal P w K mg base (2 * n + 1) "_law_unknown" (spUnk true n) []) (F : Fun K "_law_expected" "_law_expected" sExpected f fd) (b : Binds K fd ["functions", "main"] []) (hm : mg "_law_expected" = some (.ref f)) : C8.Cal P w K mg base (2 * n + 2) "_law_expected" (spExpected n) [] := by
  refine cal_of F hm b scExpected (fun vs H Q E h => ?_) (fun cdv A outer s H vs Q E hr h => ?_)
  · obtain ⟨fa, xs, fs, m, U, rfl, _⟩ := h
    rfl
  obtain ⟨fa, xs, fs, m, U, rfl, hfa, hxs, ⟨hfl, hfg, hUl⟩, hdp, hzn, hml, q⟩ := h
  have hbig := big
  have hu64 := hr.units
  have hxl := ats_len hxs
  rw [List.length_map] at hxl
  refine ⟨_, (pss_cons (ps_setLc (i := 2) (own := [("function", 7)]) (g := gName 7) (tt := tYes) (te := (tOp (rIxT K) (tVar 7) (tC (.int 0)))) rfl scExpected.nd rfl rfl (sw_true rfl rfl rfl (by decide +kernel)) (pi_list (pv 0)) (blkOk_by (own := [("function", 7)]) (N := ["functions", "main", "names", "name", "params", "body", "found", "function"]) (sc := defScope sExpected) (by decide +kernel)) (fun _ _ _ _ _ => (pg_name (i := 7) scExpected.nd rfl (Or.inl rfl))) (fun _ _ _ _ _ => pts_nil) (fun _ _ _ _ _ => (pe_ix ix_tup (pv 7) pe_int (fun _ _ => rfl))))
    (pss_cons (ps_for PassesOwn.never rfl (pi_list (pv 0)) (pg_tup rfl (pgs_cons (pg_name (i := 3) scExpected.nd rfl (Or.inl rfl)) (pgs_cons (pg_name (i := 4) scExpected.nd rfl (Or.inl rfl)) (pgs_cons (pg_name (i := 5) scExpected.nd rfl (Or.inl rfl)) pgs_nil))))
      (pss_cons (ps_set (i := 6) scExpected.nd rfl (Or.inl rfl) (C8.pe_c c_law_unknown hr (by omega) rfl (pa_cons (pv 5) (pa_cons (pe_callTy call_list_of rfl T.zlist boot_list (pa_cons (pv 4) pa_nil)) (pa_cons (pv 2) pa_nil)))))
    (pss_one (ps_if (pt_cmpR op_notN (pv 6) pe_non (nomark _))
      (pss_one (ps_ret (pe_tup (pa_cons pe_str (pa_cons (pv 6) pa_nil)))))
      pss_nil))))
    (pss_cons (ps_for PassesOwn.never rfl (pi_list (pv 0)) (pg_tup rfl (pgs_cons (pg_name (i := 3) scExpected.nd rfl (Or.inl rfl)) (pgs_cons (pg_name (i := 4) scExpected.nd rfl (Or.inl rfl)) (pgs_cons (pg_name (i := 5) scExpected.nd rfl (Or.inl rfl)) pgs_nil))))
      (pss_one (ps_if (pt_cmpR op_eq (pv 3) (pv 1) (nomark _))
      (pss_cons (ps_if (pt_cmpR (op_eqD hu64) (pv 4) (pe_tup pa_nil) (nomark _))
      (pss_one (ps_ret (pe_tup (pa_cons pe_str (pa_cons pe_int pa_nil)))))
      pss_nil)
    (pss_one (ps_ret (pe_tup (pa_cons pe_str (pa_cons (pv 1) pa_nil))))))
      pss_nil)))
    (pss_one (ps_ret (pe_tup (pa_cons pe_str (pa_cons (pv 1) pa_nil)))))))), ?_⟩
  refine ⟨_, rfl, fa, rfl, ⟨_, SqL.of hfa⟩, fun D hD => ?_⟩
  have row : ∀ {i : Nat} {x : V} {G : Hp}, Same H G → xs[i]? = some x → ∃ (q : FnT) (t u5 : Addr) (vb : V), fs[i]? = some q ∧ x = .ref t ∧ G t = some (.tup [.str q.1, .ref u5, vb]) ∧ G u5 = some (.tup (q.2.1.map V.str)) ∧ q.2.2.At F0 G vb ∧ q.1.length ≤ 1000 := by
    intro i x G sG hx
    obtain ⟨kk, hk, hka⟩ := ats_get hxs hx
    rw [List.getElem?_map] at hk
    obtain ⟨q, hq, rfl⟩ := Option.map_eq_some_iff.mp hk
    obtain ⟨t2, us2, rfl, ht2, w0, us3, rfl, hw0, w1, us4, rfl, hw1, w2, us5, rfl, hw2, hn5⟩ := hka
    cases (show us5 = [] from hn5)
    obtain ⟨rfl, hzl0⟩ := (show w0 = .str q.1 ∧ _ from hw0)
    obtain ⟨u5, rfl, hu5, hu6⟩ := nameT_at hw1
    exact ⟨q, t2, u5, w2, hq, rfl, sG _ _ ht2, sG _ _ hu5, hw2.keep (fr_same sG), hzl0⟩
  refine lc_list (a := fa) (xs := xs) (fun i G => Same H G ∧ G D = some (.lst (((fs.take i).map (·.1)).map V.str))) ⟨same_new hD _, by rw [List.take_zero]; exact upd_same⟩ (fun i G _ ⟨h, _⟩ => SqL.of (h _ _ hfa)) ?_ ?_
  · rintro i x G hx ⟨sG, eD⟩
    obtain ⟨q5, t, u5, vb, hq, rfl, ht, hu, hb, hl⟩ := row sG hx
    refine ⟨rfl, ?_⟩
    refine tYes_if ?_
    refine ⟨_, rfl, t, _, 0, _, rfl, rfl, SqT.of ht, at0 _ _, _, eD, by rw [List.length_map, List.length_map, List.length_take]; omega, same_upd hD sG _, ?_⟩
    rw [upd_same, List.take_add_one, hq, List.map_append, List.map_append]
    rfl
  rintro G1 ⟨s1, eD⟩
  rw [hxl, List.take_length] at eD
  show gName 2 (V.ref D) _ _ _
  generalize egs : fs.map (·.1) = gs at eD hzn
  have hgl : gs.length = fs.length := by rw [← egs, List.length_map]
  have eT : expT fs m = match fs.findSome? fun q => unk gs q.2.1 q.2.2 with | some z => .unk z | none => exp2 m fs := by unfold expT; rw [egs]
  rw [eT] at q
  refine ⟨_, rfl, fa, rfl, ⟨_, SqL.of (s1 _ _ hfa)⟩, ?_⟩
  refine for_list (a := fa) (xs := xs) (fun i st G => ∃ v3 v4 v5 v6 : Option V, st = [some (.ref fa), some (.str m), some (.ref D), v3, v4, v5, v6, none] ∧ Same G1 G ∧ ((fs.take i).findSome? fun q => unk gs q.2.1 q.2.2) = none) ⟨_, _, _, _, rfl, fun _ _ e => e, rfl⟩ (fun i st G _ ⟨_, _, _, _, _, h, _⟩ => SqL.of (h _ _ (s1 _ _ hfa))) ?_ ?_
  · rintro i x st G hx ⟨v3, v4, v5, v6, rfl, sG, hno⟩
    have sH := sameT s1 sG
    obtain ⟨q5, t, u5, vb, hq, rfl, ht, hu, hb, hl⟩ := row sH hx
    have hqm := List.mem_of_getElem? hq
    obtain ⟨hg1, hg2, hg3, hg4⟩ := hfg q5 hqm
    refine ⟨t, _, rfl, SqT.of ht, rfl, _, _, rfl, _, _, rfl, _, _, rfl, rfl, ?_⟩
    refine ⟨_, rfl, _, rfl, u5, _, rfl, .inr (SqT.of hu), fun l1 hl1 => ?_⟩
    have s2 := same_new hl1 (.lst (q5.2.1.map V.str))
    refine ⟨_, rfl, vb, q5.2.2, U, l1, D, q5.2.1, gs, rfl, hb.keep (fr_same s2), hg1, (hdp q5 hqm).1, hg2, ⟨upd_same, s2 _ _ (sG _ _ eD), by omega⟩, fun H2 s3 => ?_⟩
    have s13 := sameT sG (sameT s2 s3)
    have e1 : fs.take (i + 1) = fs.take i ++ [q5] := by rw [List.take_add_one, hq]; rfl
    refine ⟨_, rfl, rfl, _, rfl, ?_⟩
    cases eu : unk gs q5.2.1 q5.2.2 with
    | none =>
      refine iteF ?_
      refine ⟨_, _, _, _, rfl, s13, ?_⟩
      rw [e1, findSome_snoc, hno, eu]
      rfl
    | some o =>
      refine iteT ?_
      have hall : (fs.findSome? fun q => unk gs q.2.1 q.2.2) = some o := by
        rw [← List.take_append_drop (i + 1) fs, e1, List.findSome?_append, findSome_snoc, hno, eu]
        rfl
      rw [hall] at q
      refine ⟨_, rfl, by show 2 ≤ sizeLine; decide, fun t9 ht9 => ?_⟩
      have s4 := same_new ht9 (.tup [.str "unknown", .str o])
      refine q _ _ (sameT s1 (sameT s13 s4)) (at_tup upd_same (ats_cons (at_str' (by decide +kernel)) (ats_one (at_str' ?_))))
      exact hzn q5 hqm o eu
  rintro st G ⟨v3, v4, v5, v6, rfl, sG, hno⟩
  rw [hxl, List.take_length] at hno
  rw [hno] at q
  have sH := sameT s1 sG
  refine ⟨_, rfl, fa, rfl, ⟨_, SqL.of (sH _ _ hfa)⟩, ?_⟩
  refine for_list (a := fa) (xs := xs) (fun i st G2 => ∃ v3 v4 v5 v6 : Option V, st = [some (.ref fa), some (.str m), some (.ref D), v3, v4, v5, v6, none] ∧ Same H G2 ∧ ∀ q ∈ fs.take i, q.1 ≠ m) ⟨_, _, _, _, rfl, sH, fun q h => by rw [List.take_zero] at h; cases h⟩ (fun i st G _ ⟨_, _, _, _, _, h, _⟩ => SqL.of (h _ _ hfa)) ?_ ?_
  · rintro i x st G2 hx ⟨v3, v4, v5, v6, rfl, sG2, hne⟩
    obtain ⟨q5, t, u5, vb, hq, rfl, ht, hu, hb, hl⟩ := row sG2 hx
    have hqm := List.mem_of_getElem? hq
    have hil := (List.getElem?_eq_some_iff.mp hq).1
    have hsplit : fs = fs.take i ++ q5 :: fs.drop (i + 1) := by
      have z := (List.take_append_drop i fs).symm
      rw [List.drop_eq_getElem_cons hil] at z
      rw [List.getElem?_eq_getElem hil] at hq
      rw [← Option.some.inj hq]
      exact z
    have hx2 : exp2 m fs = exp2 m (q5 :: fs.drop (i + 1)) := by
      rw [hsplit]
      rw [exp2_skip hne, ← hsplit]
    refine ⟨t, _, rfl, SqT.of ht, rfl, _, _, rfl, _, _, rfl, _, _, rfl, rfl, ?_⟩
    refine ⟨_, rfl, _, rfl, rfl, _, rfl, ?_⟩
    by_cases e : q5.1 = m
    · have ex : exp2 m fs = if q5.2.1 = [] then .code else .arity m := by
        rw [hx2]
        show (if q5.1 = m then _ else _) = _
        rw [if_pos e]
      rw [ex] at q
      show if decide (V.str q5.1 = V.str m) = true then _ else _
      rw [decide_eq_true (by rw [e])]
      refine iteT ?_
      refine ⟨_, rfl, by show 0 ≤ sizeLine; decide, fun u0 hu0 => ?_⟩
      have s2 := same_new hu0 (.tup [])
      have e2 : upd G2 u0 (.tup []) u0 = some (.tup (([] : List Str).map V.str)) := upd_same
      refine ⟨_, _, .tup (SqT.of (s2 _ _ hu)) (strs_dp q5.2.1), .tup (SqT.of e2) (strs_dp []), strsT_shaped (hdp q5 hqm).2, strsT_shaped (fun y h => absurd h List.not_mem_nil), _, rfl, ?_⟩
      show if PyData.eqv (.tuple (q5.2.1.map PyData.str)) (.tuple []) = true then _ else _
      rw [strsT_nil]
      by_cases c : q5.2.1 = []
      · rw [decide_eq_true c]
        rw [if_pos c] at q
        refine iteT ?_
        refine ⟨by show 2 ≤ sizeLine; decide, fun t9 ht9 => ?_⟩
        have s4 := same_new ht9 (.tup [.str "code", .int 0])
        exact q _ _ (sameT sG2 (sameT s2 s4)) (at_tup upd_same (ats_cons (at_str' (by decide +kernel)) (ats_one at_int')))
      · rw [decide_eq_false c]
        rw [if_neg c] at q
        refine iteF ?_
        refine ⟨_, rfl, by show 2 ≤ sizeLine; decide, fun t9 ht9 => ?_⟩
        have s4 := same_new ht9 (.tup [.str "arity", .str m])
        exact q _ _ (sameT sG2 (sameT s2 s4)) (at_tup upd_same (ats_cons (at_str' (by decide +kernel)) (ats_one (at_str' hml))))
    · show if decide (V.str q5.1 = V.str m) = true then _ else _
      rw [decide_eq_false fun z => e (V.str.inj z)]
      refine iteF ?_
      refine ⟨_, _, _, _, rfl, sG2, fun q' hq' => ?_⟩
      rw [List.take_add_one, hq] at hq'
      rcases List.mem_append.mp hq' with h | h
      · exact hne q' h
      · rw [List.mem_singleton.mp h]
        exact e
  rintro st G2 ⟨v3, v4, v5, v6, rfl, sG2, hne⟩
  rw [hxl, List.take_length] at hne
  have hx2 : exp2 m fs = .unk m := by
    have z9 := exp2_skip (r := []) hne
    rw [List.append_nil] at z9
    rw [z9]
    rfl
  rw [hx2] at q
  refine ⟨_, rfl, by show 2 ≤ sizeLine; decide, fun t9 ht9 => ?_⟩
  have s4 := same_new ht9 (.tup [.str "unknown", .str m])
  exact q _ _ (sameT sG2 s4) (at_tup upd_same (ats_cons (at_str' (by decide +kernel)) (ats_one (at_str' hml))))
end
end Toy

set_option Elab.async false
set_option linter.all false
set_option maxRecDepth 100000
set_option maxHeartbeats 8000000
/-! Part T6: what compiling tells the law. -/
namespace Toy
open PySem L2
open PyProof.Rows (envOfC)
/-- the classes of errors, as the law's clauses ask for them -/
structure Hands (K : PySem.W.Frag) (mg : Str → Option Value) (CU CB CC CN CBC CBI : Addr) : Prop where
  gCE : mg "CodeError" = some (.ref CC)
  gNE : mg "NeedError" = some (.ref CN)
  gBC : mg "BadCode" = some (.ref CBC)
  gBI : mg "BadImage" = some (.ref CBI)
  zisinstance : mg "isinstance" = none
  UU : PySem.W.exmOne K (.ref CU) (.ref CU) = some true
  BU : PySem.W.exmOne K (.ref CB) (.ref CU) = some false
  BB : PySem.W.exmOne K (.ref CB) (.ref CB) = some true
  kUB : PySem.W.kitOne K (.ref CU) (.ref CB) = some false
  kUBC : PySem.W.kitOne K (.ref CU) (.ref CBC) = some false
  kUC : PySem.W.kitOne K (.ref CU) (.ref CC) = some true
  kUN : PySem.W.kitOne K (.ref CU) (.ref CN) = some true
  kBBI : PySem.W.kitOne K (.ref CB) (.ref CBI) = some false
  kBC : PySem.W.kitOne K (.ref CB) (.ref CC) = some true
  kBN : PySem.W.kitOne K (.ref CB) (.ref CN) = some true
section
variable {P : Program} {w : World} {K : PySem.W.Frag} {mg : Str → Option Value} {base : Heap} {CU CB fU fB : Addr} {fdU fdB : FuncData}
abbrev sActual : Stmt := topS 64
theorem scActual : FnScope ["functions", "main", "code", "e"] ["functions", "main"] (defScope sActual) := ⟨rfl, rfl, rfl, by decide +kernel, rfl, by decide +kernel, by decide +kernel⟩
def spActual : Sp := fun vs H Q _ => ∃ (fa : Addr) (xs : List V) (fs : List FnT) (m : Str) (U : List Str) (t : Told), vs = [.ref fa, .str m] ∧ H fa = some (.tup xs) ∧ Dd.Ats F0 H (fs.map fnD) xs ∧ FnsOk fs U ∧ m.length ≤ 1000 ∧
  (∀ z, CbF (ixF fs) fs z → t = .unk z ∧ z.length ≤ 1000) ∧ (∀ cs, CdF (ixF fs) fs cs → (ixF fs m = none → t = .unk m) ∧ ∀ i j, ixF fs m = some i → cntF fs m = some j → (0 < j → t = .arity m) ∧ (¬ 0 < j → t = .code ∧ ∃ c, cs[i.toNat]? = some (.tup [.int 0, c]) ∧ 0 ≤ i)) ∧
  ∀ v' H', Same H H' → t.D.At F0 H' v' → Q v' H'
theorem c_actual {CC CN CBC CBI f : Addr} {fd : FuncData} (N : Hands K mg CU CB CC CN CBC CBI) (R : Errs P w K mg base CU CB fU fB fdU fdB) (c_compile : CalX P w K mg base 9 "compile_program" (spCompile CU CB)) (F : Fun K "_law_actual" "_law_actual" sActual f fd) (b : Binds K fd ["functions", "main"] []) (hm : mg "_law_actual" = some (.ref f)) : C8.Cal P w K mg base 10 "_law_actual" spActual [] := by
  refine cal_of F hm b scActual (fun vs H Q E h => ?_) (fun cdv A outer s H vs Q E hr h => ?_)
  · obtain ⟨fa, xs, fs, m, U, t, rfl, _⟩ := h
    rfl
  obtain ⟨fa, xs, fs, m, U, t, rfl, hfa, hxs, hok, hml, hb, hc, q⟩ := h
  have gB : ∃ u, mg "BadArity" = some u ∧ RelV (.ref CB) u := ⟨_, R.B.g, rfl⟩
  have gCE : ∃ u, mg "CodeError" = some u ∧ RelV (.ref CC) u := ⟨_, N.gCE, rfl⟩
  have gNE : ∃ u, mg "NeedError" = some u ∧ RelV (.ref CN) u := ⟨_, N.gNE, rfl⟩
  have gBC : ∃ u, mg "BadCode" = some u ∧ RelV (.ref CBC) u := ⟨_, N.gBC, rfl⟩
  have gBI : ∃ u, mg "BadImage" = some u ∧ RelV (.ref CBI) u := ⟨_, N.gBI, rfl⟩
  refine ⟨_, pss_cons (ps_try_as2 (i := 3) (Wout := fun _ _ _ _ => False) rfl rfl scActual.nd rfl rfl ⟨rfl, by decide, Or.inl R.U.g⟩ ⟨rfl, by decide, Or.inl R.B.g⟩ takes0
    (fun W pn xe tk _ => (pss_one (ps_set (i := 2) scActual.nd rfl (Or.inl rfl) (by exact (pe_cx c_compile hr (by decide) rfl tk (pa_cons (pv 0) (pa_cons (pv 1) pa_nil)))))))
    (fun a oe cls d pn hz hf => pss_cons (ps_if (PW.pt (pw_or (pt_val (pe_callB (r := rIsX K a cls d) (by exact (call_isX hz hf)) rfl N.zisinstance boot_isinstance (pa_cons (pv 3) (pa_cons (C8.pe_gc rfl gB) pa_nil)))) (pw_or (pt_val (pe_callB (r := rIsX K a cls d) (by exact (call_isX hz hf)) rfl N.zisinstance boot_isinstance (pa_cons (pv 3) (pa_cons (C8.pe_gc rfl gBC) pa_nil)))) (pw_or (pt_not (pt_val (pe_callB (r := rIsX K a cls d) (by exact (call_isX hz hf)) rfl N.zisinstance boot_isinstance (pa_cons (pv 3) (pa_cons (C8.pe_gc rfl gCE) pa_nil))))) (pw_or1 (pt_not (pt_val (pe_callB (r := rIsX K a cls d) (by exact (call_isX hz hf)) rfl N.zisinstance boot_isinstance (pa_cons (pv 3) (pa_cons (C8.pe_gc rfl gNE) pa_nil))))))))))
      (pss_one (ps_ret (pe_tup (pa_cons pe_str (pa_cons pe_int pa_nil))))) pss_nil) (pss_one (ps_ret (pe_tup (pa_cons pe_str (pa_cons (pe_xf R.U.x R.U.n hz hf (pv 3)) pa_nil))))))
    (fun a oe cls d pn hz hf => pss_cons (ps_if (PW.pt (pw_or (pt_val (pe_callB (r := rIsX K a cls d) (by exact (call_isX hz hf)) rfl N.zisinstance boot_isinstance (pa_cons (pv 3) (pa_cons (C8.pe_gc rfl gBI) pa_nil)))) (pw_or (pt_not (pt_val (pe_callB (r := rIsX K a cls d) (by exact (call_isX hz hf)) rfl N.zisinstance boot_isinstance (pa_cons (pv 3) (pa_cons (C8.pe_gc rfl gCE) pa_nil))))) (pw_or1 (pt_not (pt_val (pe_callB (r := rIsX K a cls d) (by exact (call_isX hz hf)) rfl N.zisinstance boot_isinstance (pa_cons (pv 3) (pa_cons (C8.pe_gc rfl gNE) pa_nil)))))))))
      (pss_one (ps_ret (pe_tup (pa_cons pe_str (pa_cons pe_int pa_nil))))) pss_nil) (pss_one (ps_ret (pe_tup (pa_cons pe_str (pa_cons (pe_xf R.B.x R.B.n hz hf (pv 3)) pa_nil)))))))
    (pss_one (ps_ret (pe_tup (pa_cons pe_str (pa_cons (pe_ix ix_tup (pe_ix ix_tup (pe_ix ix_tup (pv 2) pe_int (fun _ _ => rfl)) (pe_ix ix_tup (pv 2) pe_int (fun _ _ => rfl)) (fun _ _ => rfl)) pe_int (fun _ _ => rfl)) pa_nil))))), ?_⟩
  refine ⟨_, rfl, _, rfl, fa, xs, fs, m, U, rfl, hfa, hxs, hok, hml, fun z hz H' d s1 hd => ?_, fun cs hcs => ⟨fun hi H' d s1 hd => ?_, fun i j hi hj => ⟨fun hp H' d s1 hd => ?_, fun hp v' H' s1 hat => ?_⟩⟩⟩
  · obtain ⟨rfl, hzl⟩ := hb z hz
    have s2 : Same H (upd H' d (.xd (nameF z))) := sameT s1 (same_new hd _)
    refine ⟨true, N.UU, fun _ a0 _ => ?_, fun z => Bool.noConfusion z⟩
    · skip
      refine ⟨_, rfl, CU, d, _, _, .ref CB, false, rfl, rfl, R.U.e, rfl, upd_same, fun u h => h, N.kUB, ?_⟩
      refine ⟨_, rfl, ?_⟩
      refine iteF ?_
      refine ⟨_, rfl, CU, d, _, _, .ref CBC, false, rfl, rfl, R.U.e, rfl, upd_same, fun u h => h, N.kUBC, ?_⟩
      refine ⟨_, rfl, ?_⟩
      refine iteF ?_
      refine ⟨_, rfl, CU, d, _, _, .ref CC, true, rfl, rfl, R.U.e, rfl, upd_same, fun u h => h, N.kUC, ?_⟩
      refine ⟨_, rfl, ?_⟩
      refine iteF ?_
      refine ⟨_, rfl, CU, d, _, _, .ref CN, true, rfl, rfl, R.U.e, rfl, upd_same, fun u h => h, N.kUN, ?_⟩
      refine ⟨_, rfl, ?_⟩
      refine iteF ?_
      refine ⟨_, rfl, rfl, rfl, d, _, _, rfl, upd_same, rfl, ?_⟩
      exact ⟨(by show 2 ≤ sizeLine; decide), fun t9 ht9 => q _ _ (sameT s2 (same_new ht9 _)) (at_tup upd_same (ats_cons (at_str' (by decide +kernel)) (ats_one (at_str' hzl))))⟩
  · obtain rfl := (hc cs hcs).1 hi
    have s2 : Same H (upd H' d (.xd (nameF m))) := sameT s1 (same_new hd _)
    refine ⟨true, N.UU, fun _ a0 _ => ?_, fun z => Bool.noConfusion z⟩
    · skip
      refine ⟨_, rfl, CU, d, _, _, .ref CB, false, rfl, rfl, R.U.e, rfl, upd_same, fun u h => h, N.kUB, ?_⟩
      refine ⟨_, rfl, ?_⟩
      refine iteF ?_
      refine ⟨_, rfl, CU, d, _, _, .ref CBC, false, rfl, rfl, R.U.e, rfl, upd_same, fun u h => h, N.kUBC, ?_⟩
      refine ⟨_, rfl, ?_⟩
      refine iteF ?_
      refine ⟨_, rfl, CU, d, _, _, .ref CC, true, rfl, rfl, R.U.e, rfl, upd_same, fun u h => h, N.kUC, ?_⟩
      refine ⟨_, rfl, ?_⟩
      refine iteF ?_
      refine ⟨_, rfl, CU, d, _, _, .ref CN, true, rfl, rfl, R.U.e, rfl, upd_same, fun u h => h, N.kUN, ?_⟩
      refine ⟨_, rfl, ?_⟩
      refine iteF ?_
      refine ⟨_, rfl, rfl, rfl, d, _, _, rfl, upd_same, rfl, ?_⟩
      exact ⟨(by show 2 ≤ sizeLine; decide), fun t9 ht9 => q _ _ (sameT s2 (same_new ht9 _)) (at_tup upd_same (ats_cons (at_str' (by decide +kernel)) (ats_one (at_str' hml))))⟩
  · obtain rfl := ((hc cs hcs).2 i j hi hj).1 hp
    have s2 : Same H (upd H' d (.xd (nameF m))) := sameT s1 (same_new hd _)
    refine ⟨false, N.BU, fun z => Bool.noConfusion z, fun _ => ⟨true, N.BB, fun _ a0 _ => ?_, fun z => Bool.noConfusion z⟩⟩
    · skip
      refine ⟨_, rfl, CB, d, _, _, .ref CBI, false, rfl, rfl, R.B.e, rfl, upd_same, fun u h => h, N.kBBI, ?_⟩
      refine ⟨_, rfl, ?_⟩
      refine iteF ?_
      refine ⟨_, rfl, CB, d, _, _, .ref CC, true, rfl, rfl, R.B.e, rfl, upd_same, fun u h => h, N.kBC, ?_⟩
      refine ⟨_, rfl, ?_⟩
      refine iteF ?_
      refine ⟨_, rfl, CB, d, _, _, .ref CN, true, rfl, rfl, R.B.e, rfl, upd_same, fun u h => h, N.kBN, ?_⟩
      refine ⟨_, rfl, ?_⟩
      refine iteF ?_
      refine ⟨_, rfl, rfl, rfl, d, _, _, rfl, upd_same, rfl, ?_⟩
      exact ⟨(by show 2 ≤ sizeLine; decide), fun t9 ht9 => q _ _ (sameT s2 (same_new ht9 _)) (at_tup upd_same (ats_cons (at_str' (by decide +kernel)) (ats_one (at_str' hml))))⟩
  · obtain ⟨rfl, c, hci, hi0⟩ := ((hc cs hcs).2 i j hi hj).2 hp
    obtain ⟨tt, ws, rfl, ett, w0, ws1, rfl, hw0, w1, ws2, rfl, hw1, hn⟩ := hat
    cases (show ws2 = [] from hn)
    cases (show w1 = .int i from hw1)
    obtain ⟨tc, us, rfl, etc, hus⟩ := hw0
    obtain ⟨x, hx, hxa⟩ := ats_getI hus hci
    obtain ⟨t3, y0, y1, rfl, et3, hy0, hy1⟩ := pair_at hxa rfl
    cases (show y0 = .int 0 from hy0)
    have hxi : atI us i = some (.ref t3) := by
      have z9 := atI_nat (xs := us) (j := i.toNat) hx
      rw [Int.toNat_of_nonneg hi0] at z9
      exact z9
    refine ⟨_, rfl, tt, _, 0, _, rfl, rfl, SqT.of ett, at0 _ _, _, rfl, tt, _, 1, _, rfl, rfl, SqT.of ett, at1 _ _ _, tc, us, i, _, rfl, rfl, SqT.of etc, hxi, t3, _, 0, _, rfl, rfl, SqT.of et3, at0 _ _, by show 2 ≤ sizeLine; decide, fun t9 ht9 => ?_⟩
    exact q _ _ (sameT s1 (same_new ht9 _)) (at_tup upd_same (ats_cons (at_str' (by decide +kernel)) (ats_one at_int')))
end
end Toy

set_option Elab.async false
set_option linter.all false
set_option maxRecDepth 100000
set_option maxHeartbeats 4000000
/-! Part U6: what compiling finds is what the law expects. -/
namespace Toy
open PySem L2
theorem ix_names (fs : List FnT) (s : Str) : (ixF fs s).isSome = true ↔ s ∈ fs.map (·.1) := by
  unfold ixF
  rw [extN_some]
  exact ⟨fun h => h.elim (fun z => by cases z) id, .inr⟩
theorem beg_alike (ps : List Str) (k : Dd) : Alike (Sc.beg ps) ps k := fun s _ => by
  have e : ((Sc.beg ps).f s).isSome = true ↔ (noF s).isSome = true ∨ s ∈ ps := extN_some s ps (fun _ => none) 0
  rw [e]
  exact ⟨fun h => h.elim (fun z => by cases z) id, .inr⟩
theorem unk_none {fs : List FnT} {U : List Str} {q : FnT} {c : Dd} {n : Nat} (h : Cd (ixF fs) q.2.2 (Sc.beg q.2.1) c n) : unk (fs.map (·.1)) q.2.1 q.2.2 = none :=
  unk_ok (ix_names fs) h (beg_alike _ _) _
theorem unk_some {fs : List FnT} {U : List Str} {q : FnT} {z : Str} {n : Nat} (hg : gl U q.2.2) (h : Cb (ixF fs) q.2.2 (Sc.beg q.2.1) z n) : unk (fs.map (·.1)) q.2.1 q.2.2 = some z := by
  have e : unk (fs.map (·.1)) q.2.1 q.2.2 = unkT (fs.map (·.1)) (q.2.2.sz + n) q.2.1 q.2.2 := unkT_stab _ _ _ _ _ hg (Nat.le_refl _) (Nat.le_add_right _ _)
  rw [e]
  exact unk_bad (ix_names fs) h (beg_alike _ _) _ (Nat.le_add_left _ _)
theorem all_none {fs : List FnT} : ∀ {l : List FnT} {cs : List Dd}, CdF (ixF fs) l cs → (l.findSome? fun q => unk (fs.map (·.1)) q.2.1 q.2.2) = none
  | [], _, _ => rfl
  | q :: l, _, ⟨c, cs', n, _, h1, h2⟩ => by
    rw [List.findSome?_cons, unk_none (U := []) h1]
    exact all_none h2
theorem exp_bad {fs : List FnT} {U : List Str} {m z : Str} (hg : ∀ q ∈ fs, gl U q.2.2) (h : CbF (ixF fs) fs z) : (fs.findSome? fun q => unk (fs.map (·.1)) q.2.1 q.2.2) = some z ∧ expT fs m = .unk z := by
  obtain ⟨l1, q, l2, cs, n, e, h1, h2⟩ := h
  have key : (fs.findSome? fun q => unk (fs.map (·.1)) q.2.1 q.2.2) = some z := by
    have hq : q ∈ fs := by rw [e]; exact List.mem_append_right _ (List.mem_cons_self ..)
    have hn := all_none h1
    have hs := unk_some (hg q hq) h2
    generalize (fs.map (·.1)) = gs at hn hs ⊢
    rw [e, List.findSome?_append, hn, List.findSome?_cons, hs]
    rfl
  refine ⟨key, ?_⟩
  unfold expT
  rw [key]
theorem exp_good {fs : List FnT} {m : Str} {cs : List Dd} (h : CdF (ixF fs) fs cs) : expT fs m = exp2 m fs := by
  unfold expT
  rw [all_none h]
theorem exp2_none {m : Str} : ∀ {fs : List FnT}, m ∉ fs.map (·.1) → exp2 m fs = .unk m
  | [], _ => rfl
  | q :: fs, h => by
    rw [List.map_cons, List.mem_cons] at h
    show (if q.1 = m then _ else exp2 m fs) = _
    rw [if_neg fun e => h (.inl e.symm)]
    exact exp2_none fun z => h (.inr z)
/-- with different names: the place, the count of params and the code of a function -/
theorem one_of {fs : List FnT} (hn : (fs.map (·.1)).Nodup) {m : Str} {i j : Int} (hi : ixF fs m = some i) (hj : cntF fs m = some j) : ∃ (k : Nat) (q : FnT), i = (k : Int) ∧ fs[k]? = some q ∧ q.1 = m ∧ j = (q.2.1.length : Nat) := by
  have key : ∀ (n : Nat), n ≤ fs.length → (ixF (fs.take n) m = none ∧ cntF (fs.take n) m = none) ∨ ∃ (k : Nat) (q : FnT), ixF (fs.take n) m = some (k : Int) ∧ cntF (fs.take n) m = some ((q.2.1.length : Nat) : Int) ∧ fs[k]? = some q ∧ q.1 = m := by
    intro n
    induction n with
    | zero => exact fun _ => .inl ⟨rfl, rfl⟩
    | succ n ih =>
      intro hl
      have hlt : n < fs.length := hl
      have e1 : fs.take (n + 1) = fs.take n ++ [fs[n]] := by rw [List.take_add_one, List.getElem?_eq_getElem hlt]; rfl
      rw [e1, ixF_snoc, cntF_snoc, List.length_take, Nat.min_eq_left (Nat.le_of_lt hlt)]
      unfold ext1
      by_cases e : m = fs[n].1
      · rw [if_pos e, if_pos e]
        exact .inr ⟨n, fs[n], rfl, rfl, List.getElem?_eq_getElem hlt, e.symm⟩
      · rw [if_neg e, if_neg e]
        exact ih (Nat.le_of_lt hlt)
  rcases key fs.length (Nat.le_refl _) with ⟨h1, _⟩ | ⟨k, q, h1, h2, h3, h4⟩
  · rw [List.take_length, hi] at h1
    cases h1
  · rw [List.take_length] at h1 h2
    rw [hi] at h1
    rw [hj] at h2
    exact ⟨k, q, Option.some.inj h1, h3, h4, Option.some.inj h2⟩
theorem code_of {ix : Str → Option Int} : ∀ {fs : List FnT} {cs : List Dd} {k : Nat} {q : FnT}, CdF ix fs cs → fs[k]? = some q → ∃ c, cs[k]? = some (.tup [.int (q.2.1.length : Nat), c])
  | [], _, _, _, _, h => by simp at h
  | _ :: _, _, 0, _, ⟨c, cs', n, e, _, _⟩, h => by cases h; exact ⟨c, by rw [e]; rfl⟩
  | _ :: _, _, k + 1, _, ⟨_, cs', n, e, _, h2⟩, h => by
    obtain ⟨c, hc⟩ := code_of h2 (k := k) (by simpa using h)
    exact ⟨c, by rw [e]; simpa using hc⟩
theorem exp2_at {m : Str} : ∀ {fs : List FnT} {k : Nat} {q : FnT}, (fs.map (·.1)).Nodup → fs[k]? = some q → q.1 = m → exp2 m fs = if q.2.1 = [] then .code else .arity m
  | [], _, _, _, h, _ => by simp at h
  | p :: fs, 0, q, _, h, e => by
    cases h
    show (if p.1 = m then _ else _) = _
    rw [if_pos e]
  | p :: fs, k + 1, q, hn, h, e => by
    rw [List.map_cons, List.nodup_cons] at hn
    have h : fs[k]? = some q := by simpa using h
    have hne : p.1 ≠ m := fun z => hn.1 (by rw [z, ← e]; exact List.mem_map.mpr ⟨q, List.mem_of_getElem? h, rfl⟩)
    show (if p.1 = m then _ else exp2 m fs) = _
    rw [if_neg hne]
    exact exp2_at hn.2 h e
/-- what _law_actual asks, for what _law_expected tells -/
theorem told_fits {fs : List FnT} {U : List Str} {m : Str} (hg : ∀ q ∈ fs, gl U q.2.2) (hn : (fs.map (·.1)).Nodup) (hz : ∀ q ∈ fs, ∀ z, unk (fs.map (·.1)) q.2.1 q.2.2 = some z → z.length ≤ 1000) :
    (∀ z, CbF (ixF fs) fs z → expT fs m = .unk z ∧ z.length ≤ 1000) ∧ (∀ cs, CdF (ixF fs) fs cs → (ixF fs m = none → expT fs m = .unk m) ∧ ∀ i j, ixF fs m = some i → cntF fs m = some j → (0 < j → expT fs m = .arity m) ∧ (¬ 0 < j → expT fs m = .code ∧ ∃ c, cs[i.toNat]? = some (.tup [.int 0, c]) ∧ 0 ≤ i)) := by
  refine ⟨fun z h => ?_, fun cs h => ⟨fun hi => ?_, fun i j hi hj => ?_⟩⟩
  · obtain ⟨h1, h2⟩ := exp_bad (m := m) hg h
    refine ⟨h2, ?_⟩
    obtain ⟨l1, q, l2, cs, n, e, _, h4⟩ := h
    have hq : q ∈ fs := by rw [e]; exact List.mem_append_right _ (List.mem_cons_self ..)
    exact hz q hq z (unk_some (hg q hq) h4)
  · rw [exp_good h]
    refine exp2_none fun hm => ?_
    have := (ix_names fs m).mpr hm
    rw [hi] at this
    cases this
  · obtain ⟨k, q, rfl, hk, hqm, rfl⟩ := one_of hn hi hj
    rw [exp_good h, exp2_at hn hk hqm]
    refine ⟨fun hp => ?_, fun hp => ?_⟩
    · rw [if_neg fun e => by rw [e] at hp; exact absurd hp (by decide)]
    · have e : q.2.1 = [] := List.eq_nil_of_length_eq_zero (by omega)
      obtain ⟨c, hc⟩ := code_of h hk
      rw [e] at hc
      exact ⟨if_pos e, c, by rw [Int.toNat_natCast]; exact hc, Int.natCast_nonneg _⟩
end Toy

set_option Elab.async false
set_option linter.all false
set_option maxRecDepth 100000
set_option maxHeartbeats 4000000
/-! Part V6: what the law draws, in plain Lean. -/
namespace Toy
open PySem L2
theorem areNames_of {zs : List Str} (h1 : ∀ z ∈ zs, isName (.str z) = true) (h2 : zs.Nodup) : areNames (nameT zs) = true := by
  show ((zs.map Dd.str).all isName && distK ((zs.map Dd.str).map keyD)) = true
  rw [Bool.and_eq_true]
  refine ⟨?_, dist_nodup ?_⟩
  · rw [List.all_map, List.all_eq_true]
    exact fun z hz => h1 z hz
  · rw [List.map_map]
    exact List.Pairwise.map _ (fun a b h e => h (Sum.inr.inj e)) h2
theorem name_okS {x : Str} (h : isName (.str x) = true) : PyData.strOk x = true := by
  have h : ((decide (1 ≤ x.length) && decide (x.length ≤ 80)) && x.cps.toList.all fun c => decide (33 ≤ c) && decide (c ≤ 126) && decide (c ≠ 37)) = true := h
  have h2 := List.all_eq_true.mp (fand h).2
  unfold PyData.strOk
  rw [Array.all_eq_true_iff_forall_mem]
  intro c hc
  have h3 := h2 c (Array.mem_toList_iff.mpr hc)
  have := of_decide_eq_true (fand (fand h3).1).2
  exact decide_eq_true (by omega)
theorem strs_shaped {ks : List Str} (h : ∀ k ∈ ks, isName (.str k) = true) : SeqAt.shaped (.list (ks.map PyData.str)) = true := by
  have z := strs_lay ks fun k hk => name_okS (h k hk)
  have z2 := strs_depth ks
  unfold SeqAt.shaped
  rw [Bool.and_eq_true]
  refine ⟨by simp [PyData.canLay0, z], decide_eq_true ?_⟩
  have z3 : (PyData.list (ks.map PyData.str)).depth ≤ 1 + PyData.depthAll (ks.map PyData.str) := by simp [PyData.depth]; omega
  omega
theorem strs_nil {ks : List Str} : PyData.eqv (.list (ks.map PyData.str)) (.list []) = decide (ks = []) := by
  cases ks with
  | nil => simp [PyData.eqv, PyData.eqvAll]
  | cons x r => simp [PyData.eqv, PyData.eqvAll]
def xN (n : Int) : Str := ("x" : Str) ++ Str.ofString (toString n)
theorem cps_app (a b : Str) : (a ++ b).cps.toList = a.cps.toList ++ b.cps.toList := by
  show (a.cps ++ b.cps).toList = _
  simp
theorem len_cps (a : Str) : a.length = a.cps.toList.length := by
  rw [Array.length_toList]
  rfl
theorem xN_nm {n : Int} (h0 : 0 ≤ n) (h1 : n < 10 ^ 10) : isName (.str (xN n)) = true := by
  have hl : (Str.ofString (toString n)).length ≤ 10 := PySem.W.KT.len_num h0 h1
  have e : (xN n).cps.toList = 120 :: (Str.ofString (toString n)).cps.toList := cps_app _ _
  have hlen : (xN n).length = 1 + (Str.ofString (toString n)).length := by
    rw [len_cps, e, len_cps]
    exact Nat.add_comm _ _
  show ((decide (1 ≤ (xN n).length) && decide ((xN n).length ≤ 80)) && (xN n).cps.toList.all fun c => decide (33 ≤ c) && decide (c ≤ 126) && decide (c ≠ 37)) = true
  rw [decide_eq_true (by omega), decide_eq_true (by omega), e, Bool.true_and, Bool.true_and, List.all_eq_true]
  intro c hc
  rcases List.mem_cons.mp hc with z | z
  · rw [z]; decide
  · have hn : ¬ (c ≠ 45 ∧ (c < 48 ∨ 57 < c)) := fun k => PyProof.Rows.int_text_free' c k n z
    rw [Bool.and_eq_true, Bool.and_eq_true]
    exact ⟨⟨decide_eq_true (by omega), decide_eq_true (by omega)⟩, decide_eq_true (by omega)⟩
/-- all names that the law binds -/
def nmP : List Str := ["a", "x", "b"]
def nmU : List Str := nmP ++ (List.range 400001).map fun (n : Nat) => xN (n : Int)
theorem nmU_len : nmU.length ≤ 1000000 := by
  unfold nmU
  rw [List.length_append, List.length_map, List.length_range]
  show 3 + 400001 ≤ 1000000
  decide
theorem nmU_x {n : Int} (h0 : 0 ≤ n) (h1 : n ≤ 400000) : xN n ∈ nmU :=
  List.mem_append_right _ (List.mem_map.mpr ⟨n.toNat, List.mem_range.mpr (by omega), by show xN (n.toNat : Int) = xN n; rw [Int.toNat_of_nonneg h0]⟩)
/-- a name that may be bound -/
def nmOk (x : Str) : Prop := isName (.str x) = true ∧ x ∈ nmU
theorem nmOk.len {x : Str} (h : nmOk x) : x.length ≤ 1000 := str_le (d := .str x) h.1
theorem nmP_ok : ∀ s ∈ nmP, isName (.str s) = true := by decide +kernel
theorem nm_ps : ∀ s ∈ nmP, nmOk s := fun s h => ⟨nmP_ok s h, List.mem_append_left _ h⟩
theorem nm_x : nmOk "x" := nm_ps _ (by decide +kernel)
theorem nm_xN {n : Int} (h0 : 0 ≤ n) (h1 : n ≤ 400000) : nmOk (xN n) := ⟨xN_nm h0 (by omega), nmU_x h0 h1⟩
theorem ats_strsL {B : Addr → Prop} {H : Hp} : ∀ {zs : List Str}, (∀ z ∈ zs, nmOk z) → Dd.Ats B H (zs.map Dd.str) (zs.map V.str)
  | [], _ => rfl
  | z :: zs, h => ⟨.str z, zs.map V.str, rfl, ⟨rfl, (h z (List.mem_cons_self ..)).len⟩, ats_strsL fun y hy => h y (List.mem_cons_of_mem _ hy)⟩
mutual
/-- all texts in it can be laid out -/
def Dd.so : Dd → Bool
  | .str s => PyData.strOk s
  | .tup l => Dd.sos l
  | .lst l => Dd.sos l
  | _ => true
def Dd.sos : List Dd → Bool
  | [] => true
  | k :: l => k.so && Dd.sos l
end
theorem sos_all : ∀ {l : List Dd}, Dd.sos l = true ↔ ∀ k ∈ l, k.so = true
  | [] => ⟨fun _ k h => absurd h List.not_mem_nil, fun _ => rfl⟩
  | k :: l => by
    show (k.so && Dd.sos l) = true ↔ _
    rw [Bool.and_eq_true, sos_all]
    exact ⟨fun h y hy => (List.mem_cons.mp hy).elim (fun e => e ▸ h.1) (h.2 y), fun h => ⟨h k (List.mem_cons_self ..), fun y hy => h y (List.mem_cons_of_mem _ hy)⟩⟩
/-- an atom whose text can be laid out -/
def atmB (k : Dd) : Bool := isAtm k && k.so
theorem atmB_atm {k : Dd} (h : atmB k = true) : isAtm k = true := (fand h).1
theorem atmB_so {k : Dd} (h : atmB k = true) : k.so = true := (fand h).2
theorem atmB_int (i : Int) : atmB (.int i) = true := rfl
theorem atmB_str {s : Str} (h : isName (.str s) = true) : atmB (.str s) = true := name_okS h
theorem and3 {a b : Bool} (h : a = true) (k : b = true) : (a && b) = true := by rw [h, k]; rfl
theorem so_str {s : Str} {l : List Dd} (h : PyData.strOk s = true) (k : Dd.sos l = true) : Dd.sos (.str s :: l) = true := and3 h k
theorem so_cons {x : Dd} {l : List Dd} (h : x.so = true) (k : Dd.sos l = true) : Dd.sos (x :: l) = true := and3 h k
theorem so_int {i : Int} {l : List Dd} (k : Dd.sos l = true) : Dd.sos (.int i :: l) = true := and3 rfl k
theorem so_nil : Dd.sos [] = true := rfl
theorem szs_ones : ∀ {l : List Dd}, (∀ a ∈ l, atmB a = true) → Dd.szs l = l.length
  | [], _ => rfl
  | a :: l, h => by
    have h1 := h a (List.mem_cons_self ..)
    have h2 := szs_ones fun b hb => h b (List.mem_cons_of_mem _ hb)
    have h3 : a.sz = 1 := by
      have h1 := atmB_atm h1
      cases a with
      | str s => rfl
      | int i => rfl
      | bl b => cases h1
      | non => cases h1
      | tup l => cases h1
      | lst l => cases h1
    show a.sz + Dd.szs l = l.length + 1
    omega
theorem atm_sz {a : Dd} (h : atmB a = true) : a.sz = 1 := by
  have := szs_ones (l := [a]) fun b hb => by rw [List.mem_singleton.mp hb]; exact h
  show a.sz = 1
  have e : Dd.szs [a] = a.sz + 0 := rfl
  rw [e] at this
  exact this
theorem szs_le {z : Nat} : ∀ {l : List Dd}, (∀ q ∈ l, q.sz ≤ z) → Dd.szs l ≤ l.length * z
  | [], _ => Nat.zero_le _
  | q :: l, h => by
    have h1 := h q (List.mem_cons_self ..)
    have h2 := szs_le fun y hy => h y (List.mem_cons_of_mem _ hy)
    show q.sz + Dd.szs l ≤ (l.length + 1) * z
    rw [Nat.succ_mul]
    omega
/-! ### bodies and members that are right -/
structure Dw (n : Nat) (b : Bool) (k : Dd) : Prop where
  g : gl nmU k
  d : DpT n b k
  s : k.so = true
theorem dp_no {n : Nat} {b : Bool} {w : Str} {r : List Dd} (h1 : if b then w ≠ "later" ∧ w ≠ "part" else w = "later" ∨ w = "con" ∨ w = "part") (h2 : w = "atom" → r.length = 1) (h3 : innerW w r = []) : DpT (n + 1) b (.tup (.str w :: r)) :=
  ⟨w, r, rfl, h1, h2, fun i q h => by rw [h3] at h; simp at h⟩
theorem dp_same {n : Nat} {b : Bool} {w : Str} {r : List Dd} (h1 : if b then w ≠ "later" ∧ w ≠ "part" else w = "later" ∨ w = "con" ∨ w = "part") (h2 : w ≠ "atom") (hw : w ≠ "let") (h3 : ∀ q ∈ innerW w r, DpT n true q.2) : DpT (n + 1) b (.tup (.str w :: r)) :=
  ⟨w, r, rfl, h1, fun e => absurd e h2, fun i q h => by
    rw [decide_eq_false hw, Bool.false_and]
    exact h3 q (List.mem_of_getElem? h)⟩
theorem inner_none {w : Str} {r : List Dd} (h1 : w ≠ "later") (h2 : w ∉ coreWords) : innerW w r = [] := by
  unfold innerW
  rw [if_neg h1, if_neg h2]
theorem gl_none {w : Str} {r : List Dd} (h1 : w ≠ "later") (h2 : w ∉ coreWords) (ha : AtomsOk w r) (h3 : ∀ a ∈ atomsW w r, atmB a = true) (hm : MkOk w r) : gl nmU (.tup (.str w :: r)) :=
  gl_mk ha ⟨fun z => absurd z h1, fun z => absurd z h2⟩ (fun a ha => atmB_atm (h3 a ha)) hm fun q hq => by rw [inner_none h1 h2] at hq; cases hq
theorem DpT.mono : ∀ {n m : Nat} {b : Bool} {k : Dd}, DpT n b k → n ≤ m → DpT m b k
  | n + 1, m + 1, b, k, ⟨w, r, e, h1, h2, h3⟩, h => ⟨w, r, e, h1, h2, fun i q hq => DpT.mono (h3 i q hq) (Nat.le_of_succ_le_succ h)⟩
  | n + 1, 0, _, _, _, h => absurd h (Nat.not_succ_le_zero n)
  | 0, _, _, _, h, _ => h.elim
theorem Dw.mono {n m : Nat} {b : Bool} {k : Dd} (h : Dw n b k) (l : n ≤ m) : Dw m b k := ⟨h.g, h.d.mono l, h.s⟩
theorem dw_atom {n : Nat} {a : Dd} (h : atmB a = true) : Dw (n + 1) true (.tup [.str "atom", a]) where
  g := gl_none (by decide +kernel) (by decide +kernel) ⟨fun _ => Nat.le_refl _, fun z => absurd z (by decide +kernel), fun z => absurd z (by decide +kernel)⟩ (fun x hx => by
    have e : atomsW "atom" [a] = [a] := by unfold atomsW; rw [if_pos rfl]; rfl
    rw [e, List.mem_singleton] at hx
    rw [hx]
    exact h) ⟨by decide +kernel, fun z => absurd z (by decide +kernel), fun z => absurd z (by decide +kernel)⟩
  d := dp_no ⟨by decide +kernel, by decide +kernel⟩ (fun _ => rfl) (inner_none (by decide +kernel) (by decide +kernel))
  s := so_str (by decide +kernel) (so_cons (atmB_so h) so_nil)
theorem dw_call {n : Nat} {a : Dd} {l : List Dd} (ha : atmB a = true) (h : ∀ a ∈ l, atmB a = true) : Dw (n + 1) true (.tup [.str "call", a, .tup l]) where
  g := gl_none (by decide +kernel) (by decide +kernel) ⟨fun z => absurd z (by decide +kernel), fun _ => ⟨Nat.le_refl _, rfl⟩, fun z => absurd z (by decide +kernel)⟩ (fun x hx => by
    have e : atomsW "call" [a, .tup l] = a :: l := by unfold atomsW; rw [if_neg (by decide +kernel), if_pos rfl]; rfl
    rw [e] at hx
    rcases List.mem_cons.mp hx with z | z
    · rw [z]; exact ha
    · exact h x z) ⟨by decide +kernel, fun z => absurd z (by decide +kernel), fun z => absurd z (by decide +kernel)⟩
  d := dp_no ⟨by decide +kernel, by decide +kernel⟩ (fun z => absurd z (by decide +kernel)) (inner_none (by decide +kernel) (by decide +kernel))
  s := so_str (by decide +kernel) (so_cons (atmB_so ha) (so_cons (sos_all.mpr fun a h2 => atmB_so (h a h2)) so_nil))
theorem dw_con {n : Nat} {b : Bool} {i : Int} {l : List Dd} (h : ∀ a ∈ l, atmB a = true) : Dw (n + 1) b (.tup [.str "con", .int i, .tup l]) where
  g := gl_none (by decide +kernel) (by decide +kernel) ⟨fun z => absurd z (by decide +kernel), fun _ => ⟨Nat.le_refl _, rfl⟩, fun z => absurd z (by decide +kernel)⟩ (fun x hx => by
    have e : atomsW "con" [.int i, .tup l] = l := by unfold atomsW; rw [if_neg (by decide +kernel), if_neg (by decide +kernel), if_pos (.inl rfl)]; rfl
    rw [e] at hx
    exact h x hx) ⟨by decide +kernel, fun z => absurd z (by decide +kernel), fun z => absurd z (by decide +kernel)⟩
  d := dp_no (by cases b <;> decide +kernel) (fun z => absurd z (by decide +kernel)) (inner_none (by decide +kernel) (by decide +kernel))
  s := so_str (by decide +kernel) (so_int (so_cons (sos_all.mpr fun a h2 => atmB_so (h a h2)) so_nil))
theorem dw_part {n : Nat} {s : Str} {l : List Dd} (hs : PyData.strOk s = true) (h : ∀ a ∈ l, atmB a = true) : Dw (n + 1) false (.tup [.str "part", .str s, .tup l]) where
  g := gl_none (by decide +kernel) (by decide +kernel) ⟨fun z => absurd z (by decide +kernel), fun _ => ⟨Nat.le_refl _, rfl⟩, fun z => absurd z (by decide +kernel)⟩ (fun x hx => by
    have e : atomsW "part" [.str s, .tup l] = l := by unfold atomsW; rw [if_neg (by decide +kernel), if_neg (by decide +kernel), if_pos (.inr rfl)]; rfl
    rw [e] at hx
    exact h x hx) ⟨by decide +kernel, fun z => absurd z (by decide +kernel), fun _ => rfl⟩
  d := dp_no (by decide +kernel) (fun z => absurd z (by decide +kernel)) (inner_none (by decide +kernel) (by decide +kernel))
  s := so_str (by decide +kernel) (so_str hs (so_cons (sos_all.mpr fun a h2 => atmB_so (h a h2)) so_nil))
theorem dw_prim {n : Nat} {s x y : Dd} (hs : s.so = true) (hx : atmB x = true) (hy : atmB y = true) : Dw (n + 1) true (.tup [.str "prim", s, x, y]) where
  g := gl_none (by decide +kernel) (by decide +kernel) ⟨fun z => absurd z (by decide +kernel), fun z => absurd z (by decide +kernel), fun _ => by show 2 ≤ 3; decide⟩ (fun a ha => by
    have e : atomsW "prim" [s, x, y] = [x, y] := by unfold atomsW; rw [if_neg (by decide +kernel), if_neg (by decide +kernel), if_neg (by decide +kernel), if_pos rfl]; rfl
    rw [e] at ha
    rcases List.mem_cons.mp ha with z | z
    · rw [z]; exact hx
    · rw [List.mem_singleton.mp z]; exact hy) ⟨by decide +kernel, fun _ => rfl, fun z => absurd z (by decide +kernel)⟩
  d := dp_no ⟨by decide +kernel, by decide +kernel⟩ (fun z => absurd z (by decide +kernel)) (inner_none (by decide +kernel) (by decide +kernel))
  s := so_str (by decide +kernel) (so_cons hs (so_cons (atmB_so hx) (so_cons (atmB_so hy) so_nil)))
theorem atoms_later (r : List Dd) : atomsW "later" r = [] := by
  unfold atomsW
  rw [if_neg (by decide +kernel), if_neg (by decide +kernel), if_neg (by decide +kernel), if_neg (by decide +kernel)]
theorem atoms_core {w : Str} (h : w ∈ coreWords) (r : List Dd) : atomsW w r = [] := by
  have z : ∀ w ∈ coreWords, ¬ (w = "atom") ∧ ¬ (w = "call") ∧ ¬ (w = "con" ∨ w = "part") ∧ ¬ (w = "prim") := by decide +kernel
  obtain ⟨z1, z2, z3, z4⟩ := z w h
  unfold atomsW
  rw [if_neg z1, if_neg z2, if_neg z3, if_neg z4]
theorem dw_later {n : Nat} {k : Dd} (h : Dw n true k) : Dw (n + 1) false (.tup [.str "later", k]) := by
  have ei : innerW "later" [k] = [([], k)] := by unfold innerW; rw [if_pos rfl]; rfl
  refine ⟨gl_mk ⟨fun z => absurd z (by decide +kernel), fun z => absurd z (by decide +kernel), fun z => absurd z (by decide +kernel)⟩ ⟨fun _ => Nat.le_refl _, fun z => absurd z (by decide +kernel)⟩ (fun a ha => by rw [atoms_later] at ha; cases ha) ⟨by decide +kernel, fun z => absurd z (by decide +kernel), fun z => absurd z (by decide +kernel)⟩ fun q hq => ?_, dp_same (by decide +kernel) (by decide +kernel) (by decide +kernel) fun q hq => ?_, so_str (by decide +kernel) (so_cons h.s so_nil)⟩
  · rw [ei, List.mem_singleton] at hq
    rw [hq]
    exact ⟨fun s hs => absurd hs List.not_mem_nil, h.g⟩
  · rw [ei, List.mem_singleton] at hq
    rw [hq]
    exact h.d
theorem gl_core {w : Str} {r : List Dd} (hw : w ∈ coreWords) (hf : formW w r = true) (h : ∀ q ∈ innerW w r, (∀ s ∈ q.1, s ∈ nmU) ∧ gl nmU q.2) : gl nmU (.tup (.str w :: r)) := by
  have z : ∀ w ∈ coreWords, w ≠ "atom" ∧ ¬ (w = "call" ∨ w = "con" ∨ w = "part") ∧ w ≠ "prim" ∧ w ≠ "later" ∧ w ≠ "part" ∧ w ∈ thingWords := by decide +kernel
  obtain ⟨z1, z2, z3, z4, z5, z6⟩ := z w hw
  exact gl_mk ⟨fun e => absurd e z1, fun e => absurd e z2, fun e => absurd e z3⟩ ⟨fun e => absurd e z4, fun _ => hf⟩ (fun a ha => by rw [atoms_core hw] at ha; cases ha) ⟨z6, fun e => absurd e z3, fun e => absurd e z5⟩ h
theorem dw_seq {n : Nat} {x : Str} {a b : Dd} (hx : nmOk x) (ha : Dw n true a) (hb : Dw n true b) : Dw (n + 1) true (.tup [.str "seq", .str x, a, b]) := by
  have ei := inner_seq (.str x) a b
  have hf : formW "seq" [.str x, a, b] = true := by
    rw [fw_seq]
    show (decide (3 = 3) && isName (.str x)) = true
    rw [hx.1]
    rfl
  have key : ∀ q ∈ innerW "seq" [.str x, a, b], (∀ s ∈ q.1, s ∈ nmU) ∧ Dw n true q.2 := fun q hq => by
    rw [ei] at hq
    rcases List.mem_cons.mp hq with e | e
    · rw [e]; exact ⟨fun s hs => absurd hs List.not_mem_nil, ha⟩
    · rw [List.mem_singleton.mp e]
      exact ⟨fun s hs => by rw [List.mem_singleton.mp hs]; exact hx.2, hb⟩
  exact ⟨gl_core (by decide +kernel) hf fun q hq => ⟨(key q hq).1, (key q hq).2.g⟩, dp_same ⟨by decide +kernel, by decide +kernel⟩ (by decide +kernel) (by decide +kernel) fun q hq => (key q hq).2.d, so_str (by decide +kernel) (so_str (name_okS hx.1) (so_cons ha.s (so_cons hb.s so_nil)))⟩
theorem dw_note {n : Nat} {i : Int} {b : Dd} (h0 : 0 ≤ i) (h1 : i ≤ 1000000000000) (hb : Dw n true b) : Dw (n + 1) true (.tup [.str "note", .int i, b]) := by
  have ei := inner_note (.int i) b
  have hf : formW "note" [.int i, b] = true := by
    rw [fw_note]
    show (decide (2 = 2) && (decide (0 ≤ i) && decide (i ≤ 1000000000000))) = true
    rw [decide_eq_true h0, decide_eq_true h1]
    rfl
  have key : ∀ q ∈ innerW "note" [.int i, b], (∀ s ∈ q.1, s ∈ nmU) ∧ Dw n true q.2 := fun q hq => by
    rw [ei] at hq
    rw [List.mem_singleton.mp hq]
    exact ⟨fun s hs => absurd hs List.not_mem_nil, hb⟩
  exact ⟨gl_core (by decide +kernel) hf fun q hq => ⟨(key q hq).1, (key q hq).2.g⟩, dp_same ⟨by decide +kernel, by decide +kernel⟩ (by decide +kernel) (by decide +kernel) fun q hq => (key q hq).2.d, so_str (by decide +kernel) (so_int (so_cons hb.s so_nil))⟩
def rowL (q : Str × Dd) : Dd := .tup [.str q.1, q.2]
theorem dw_let {n : Nat} {rows : List (Str × Dd)} {b : Dd} (h0 : 0 < rows.length) (hn : ∀ s ∈ rows.map (·.1), nmOk s) (hd : (rows.map (·.1)).Nodup) (hr : ∀ q ∈ rows, Dw n false q.2) (hb : Dw n true b) : Dw (n + 1) true (.tup [.str "let", .tup (rows.map rowL), b]) := by
  have ens : (rows.map rowL).map (fun q => strOf (nth 0 q)) = rows.map (·.1) := by rw [List.map_map]; rfl
  have ei : innerW "let" [.tup (rows.map rowL), b] = (rows.map fun q => (rows.map (·.1), q.2)) ++ [(rows.map (·.1), b)] := by
    rw [inner_let, ens, List.map_map]
    rfl
  have hf : formW "let" [.tup (rows.map rowL), b] = true := by
    rw [fw_let]
    show (decide (2 = 2) && (rows.map rowL).all (isRow 2) && (decide (0 < (rows.map rowL).length) && areNames (.tup ((rows.map rowL).map (nth 0))))) = true
    have e1 : (rows.map rowL).map (nth 0) = (rows.map (·.1)).map Dd.str := by
      rw [List.map_map, List.map_map]
      rfl
    rw [e1, show areNames (.tup ((rows.map (·.1)).map Dd.str)) = true from areNames_of (fun z hz => (hn z hz).1) hd, List.length_map, decide_eq_true h0]
    show (true && (rows.map rowL).all (isRow 2) && true) = true
    rw [Bool.true_and, Bool.and_true, List.all_eq_true]
    intro x hx
    obtain ⟨q, hq, rfl⟩ := List.mem_map.mp hx
    rfl
  refine ⟨gl_core (by decide +kernel) hf fun q hq => ?_, ⟨_, _, rfl, ⟨by decide +kernel, by decide +kernel⟩, fun z => absurd z (by decide +kernel), fun i q hi => ?_⟩, so_str (by decide +kernel) (so_cons (sos_all.mpr fun a ha => ?_) (so_cons hb.s so_nil))⟩
  · rw [ei] at hq
    rcases List.mem_append.mp hq with e | e
    · obtain ⟨y, hy, rfl⟩ := List.mem_map.mp e
      exact ⟨fun s hs => (hn s hs).2, (hr y hy).g⟩
    · rw [List.mem_singleton.mp e]
      exact ⟨fun s hs => (hn s hs).2, hb.g⟩
  · rw [ei] at hi ⊢
    rw [List.length_append, List.length_map, decide_eq_true rfl, Bool.true_and]
    by_cases c : i < rows.length
    · rw [List.getElem?_append_left (by rw [List.length_map]; exact c), List.getElem?_map] at hi
      obtain ⟨y, hy, rfl⟩ := Option.map_eq_some_iff.mp hi
      rw [decide_eq_true (by show i + 1 < rows.length + 1; omega)]
      exact (hr y (List.mem_of_getElem? hy)).d
    · rw [List.getElem?_append_right (by rw [List.length_map]; omega)] at hi
      rw [decide_eq_false (by show ¬ i + 1 < rows.length + 1; omega)]
      have hq := List.mem_singleton.mp (List.mem_of_getElem? hi)
      rw [hq]
      exact hb.d
  · obtain ⟨q, hq, rfl⟩ := List.mem_map.mp ha
    exact so_str (name_okS (hn q.1 (List.mem_map.mpr ⟨q, hq, rfl⟩)).1) (so_cons (hr q hq).s so_nil)
/-- a row of a choice -/
def RwC (n z : Nat) (q : Dd) : Prop := ∃ (j : Int) (zs : List Str) (k : Dd), q = .tup [.int j, nameT zs, k] ∧ 0 ≤ j ∧ j ≤ 1000 ∧ (∀ s ∈ zs, nmOk s) ∧ zs.Nodup ∧ zs.length ≤ 2 ∧ Dw n true k ∧ k.sz ≤ z
def RwP (n z : Nat) (m : Int) (q : Dd) : Prop := ∃ (j : Int) (k : Dd), q = .tup [.int j, k] ∧ -1000 ≤ j ∧ j ≤ m ∧ Dw n true k ∧ k.sz ≤ z
def RowsOk (w : Str) (n z i : Nat) (rows : List Dd) : Prop :=
  (w = "case" ∧ ∀ q ∈ rows, RwC n z q) ∨ (w = "pick" ∧ (∀ q ∈ rows, RwP n z (3 * (i : Int) - 3) q) ∧ (rows.map fun q => keyD (nth 0 q)).Nodup)
def DfOk (n z : Nat) (d : Dd) : Prop := d = .non ∨ ∃ (s : Str) (k : Dd), d = .tup [.str s, k] ∧ nmOk s ∧ Dw n true k ∧ k.sz ≤ z
theorem df_sz {n z : Nat} {d : Dd} (h : DfOk n z d) : d.sz ≤ z + 2 := by
  rcases h with rfl | ⟨s, k, rfl, _, _, h⟩
  · show 1 ≤ _; omega
  · show 1 + (1 + (k.sz + 0)) ≤ _; omega
theorem rows_sz {w : Str} {n z i : Nat} {rows : List Dd} (h : RowsOk w n z i rows) : Dd.szs rows ≤ rows.length * (z + 5) := by
  refine szs_le fun q hq => ?_
  rcases h with ⟨_, h⟩ | ⟨_, h, _⟩
  · obtain ⟨j, zs, k, rfl, _, _, _, _, h5, _, h7⟩ := h q hq
    have e := szs_strs zs
    show 1 + (1 + ((1 + Dd.szs (zs.map Dd.str)) + (k.sz + 0))) ≤ _
    omega
  · obtain ⟨j, k, rfl, _, _, _, h7⟩ := h q hq
    show 1 + (1 + (k.sz + 0)) ≤ _
    omega
theorem strs_back (ns : List Str) : strsOf (nameT ns) = ns := by
  show (ns.map Dd.str).map strOf = ns
  rw [List.map_map]
  have : ns.map (strOf ∘ Dd.str) = ns.map id := List.map_congr_left fun _ _ => rfl
  rw [this, List.map_id]
theorem dw_choice {n z i : Nat} {w : Str} {f d : Dd} {rows : List Dd} (hf : Dw n true f) (hr : RowsOk w n z i rows) (hi : i ≤ 100) (hd : DfOk n z d) : Dw (n + 1) true (.tup [.str w, f, .tup rows, d]) := by
  have hw : w = "case" ∨ w = "pick" := hr.imp (·.1) (·.1)
  have hwc : w ∈ coreWords := by rcases hw with rfl | rfl <;> decide +kernel
  have hd2 : isDflt d = true := by
    rcases hd with rfl | ⟨s, k, rfl, h, _⟩
    · rfl
    · show (true && isName (.str s)) = true
      rw [h.1]; rfl
  have hfm : formW w [f, .tup rows, d] = true := by
    rcases hr with ⟨rfl, h⟩ | ⟨rfl, h, h2⟩
    · rw [fw_case]
      have hA : rows.all (isRow 3) = true := by
        rw [List.all_eq_true]
        intro x hx
        obtain ⟨j, zs, k, rfl, _⟩ := h x hx
        rfl
      have hB : (rows.all fun q => numIn 0 1000 (nth 0 q) && areNames (nth 1 q)) = true := by
        rw [List.all_eq_true]
        intro x hx
        obtain ⟨j, zs, k, rfl, h0, h1, h3, h4, _⟩ := h x hx
        show ((decide (0 ≤ j) && decide (j ≤ 1000)) && areNames (nameT zs)) = true
        rw [decide_eq_true h0, decide_eq_true h1, areNames_of (fun s hs => (h3 s hs).1) h4]
        rfl
      show (((decide (3 = 3) && rows.all (isRow 3)) && isDflt d) && (rows.all fun q => numIn 0 1000 (nth 0 q) && areNames (nth 1 q))) = true
      rw [hA, hB, hd2]
      rfl
    · rw [fw_pick]
      have hA : rows.all (isRow 2) = true := by
        rw [List.all_eq_true]
        intro x hx
        obtain ⟨j, k, rfl, _⟩ := h x hx
        rfl
      have hB : (rows.map (nth 0)).all cNum = true := by
        rw [List.all_eq_true]
        intro x hx
        obtain ⟨p, hp, rfl⟩ := List.mem_map.mp hx
        obtain ⟨j, k, rfl, h0, h1, _⟩ := h p hp
        show (decide (-1000000000000000 ≤ j) && decide (j ≤ 1000000000000000)) = true
        rw [decide_eq_true (by omega), decide_eq_true (by omega)]
        rfl
      have hC : distK ((rows.map (nth 0)).map keyD) = true := by
        refine dist_nodup ?_
        rw [List.map_map]
        exact h2
      show (((decide (3 = 3) && rows.all (isRow 2)) && isDflt d) && ((rows.map (nth 0)).all cNum && distK ((rows.map (nth 0)).map keyD))) = true
      rw [hA, hB, hC, hd2]
      rfl
  have key : ∀ q ∈ innerW w [f, .tup rows, d], (∀ s ∈ q.1, s ∈ nmU) ∧ Dw n true q.2 := fun q hq => by
    rw [inner_choice hw] at hq
    rcases List.mem_cons.mp hq with e | e
    · rw [e]
      exact ⟨fun s hs => absurd hs List.not_mem_nil, hf⟩
    rcases List.mem_append.mp e with e | e
    · obtain ⟨y, hy, rfl⟩ := List.mem_map.mp e
      rcases hr with ⟨rfl, h⟩ | ⟨rfl, h, h2⟩
      · obtain ⟨j, zs, k, rfl, h0, h1, h3, h4, _, h5, _⟩ := h y hy
        refine ⟨fun s hs => ?_, h5⟩
        have e : nsR "case" (.tup [.int j, nameT zs, k]) = zs := by
          unfold nsR
          rw [if_pos rfl]
          exact strs_back zs
        have hs : s ∈ nsR "case" (.tup [.int j, nameT zs, k]) := hs
        rw [e] at hs
        exact (h3 s hs).2
      · obtain ⟨j, k, rfl, h0, h1, h5, _⟩ := h y hy
        refine ⟨fun s hs => ?_, h5⟩
        have hs : s ∈ nsR "pick" (.tup [.int j, k]) := hs
        unfold nsR at hs
        rw [if_neg (by decide +kernel)] at hs
        cases hs
    · rcases hd with rfl | ⟨s, k, rfl, h, h5, _⟩
      · cases e
      · rw [List.mem_singleton.mp e]
        exact ⟨fun s' hs => by rw [List.mem_singleton.mp hs]; exact h.2, h5⟩
  have hrs : ∀ q ∈ rows, q.so = true := fun q hq => by
    rcases hr with ⟨rfl, h⟩ | ⟨rfl, h, h2⟩
    · obtain ⟨j, zs, k, rfl, h0, h1, h3, h4, _, h5, _⟩ := h q hq
      refine so_int (so_cons (sos_all.mpr fun a ha => ?_) (so_cons h5.s so_nil))
      obtain ⟨s, hs, rfl⟩ := List.mem_map.mp ha
      exact name_okS (h3 s hs).1
    · obtain ⟨j, k, rfl, h0, h1, h5, _⟩ := h q hq
      exact so_int (so_cons h5.s so_nil)
  have hds : d.so = true := by
    rcases hd with rfl | ⟨s, k, rfl, h, h5, _⟩
    · rfl
    · exact so_str (name_okS h.1) (so_cons h5.s so_nil)
  have hw1 : w ≠ "later" ∧ w ≠ "part" ∧ w ≠ "atom" ∧ w ≠ "let" := by rcases hw with rfl | rfl <;> decide +kernel
  exact ⟨gl_core hwc hfm fun q hq => ⟨(key q hq).1, (key q hq).2.g⟩, dp_same ⟨hw1.1, hw1.2.1⟩ hw1.2.2.1 hw1.2.2.2 fun q hq => (key q hq).2.d, so_str (by rcases hw with rfl | rfl <;> decide +kernel) (so_cons hf.s (so_cons (sos_all.mpr hrs) (so_cons hds so_nil)))⟩
/-! ### what is told of all parts is told of the names that are found -/
structure Her (P : Dd → Prop) : Prop where
  tup : ∀ {l : List Dd} {k : Dd}, P (.tup l) → k ∈ l → P k
  non : P .non
section
variable {P : Dd → Prop} (hP : Her P)
theorem arg_mem {i : Nat} {r : List Dd} : arg i r ∈ r ∨ arg i r = .non := by
  unfold arg
  by_cases h : i < r.length
  · refine .inl ?_
    rw [List.getD_eq_getElem?_getD, List.getElem?_eq_getElem h]
    exact List.getElem_mem h
  · refine .inr ?_
    rw [List.getD_eq_getElem?_getD, List.getElem?_eq_none (by omega)]
    rfl
theorem her_arg {r : List Dd} (hP : Her P) (h : ∀ k ∈ r, P k) (i : Nat) : P (arg i r) := by
  rcases arg_mem (i := i) (r := r) with e | e
  · exact h _ e
  · rw [e]; exact hP.non
theorem her_tl {k q : Dd} (hP : Her P) (h : P k) (hq : q ∈ tl k) : P q := by
  cases k with
  | tup l => exact hP.tup h hq
  | non => cases hq
  | bl b => cases hq
  | int i => cases hq
  | str s => cases hq
  | lst l => cases hq
theorem her_nth {k : Dd} (hP : Her P) (h : P k) (i : Nat) : P (nth i k) := by
  cases k with
  | tup l => exact her_arg hP (fun k hk => hP.tup h hk) i
  | non => exact hP.non
  | bl b => exact hP.non
  | int i => exact hP.non
  | str s => exact hP.non
  | lst l => exact hP.non
theorem her_last {k : Dd} (hP : Her P) (h : P k) : P (lastD k) := by
  cases k with
  | tup l =>
    by_cases e : 1 ≤ l.length
    · exact hP.tup h (last_mem e)
    · cases l with
      | nil => exact hP.non
      | cons x l => exact absurd (Nat.le_add_left 1 _) e
  | non => exact hP.non
  | bl b => exact hP.non
  | int i => exact hP.non
  | str s => exact hP.non
  | lst l => exact hP.non
theorem her_part {w : Str} {r : List Dd} {k : Dd} (hP : Her P) (h : ∀ k ∈ r, P k) (hw : w ∈ coreWords) (hk : k ∈ partsW w r) : P k := by
  have hg : ∀ k ∈ gChoice r, P k := fun k hk => by
    rcases List.mem_cons.mp hk with e | e
    · rw [e]; exact her_arg hP h 0
    · rcases List.mem_append.mp e with e | e
      · obtain ⟨q, hq, rfl⟩ := List.mem_map.mp e
        exact her_last hP (her_tl hP (her_arg hP h 1) hq)
      · have h2 := her_arg hP h 2
        cases ed : arg 2 r with
        | non => rw [ed] at e; cases e
        | tup l => rw [ed] at e h2; rw [List.mem_singleton.mp e]; exact her_nth hP h2 1
        | bl b => rw [ed] at e h2; rw [List.mem_singleton.mp e]; exact her_nth hP h2 1
        | int i => rw [ed] at e h2; rw [List.mem_singleton.mp e]; exact her_nth hP h2 1
        | str s => rw [ed] at e h2; rw [List.mem_singleton.mp e]; exact her_nth hP h2 1
        | lst l => rw [ed] at e h2; rw [List.mem_singleton.mp e]; exact her_nth hP h2 1
  unfold coreWords at hw
  simp only [List.mem_cons, List.not_mem_nil, or_false] at hw
  rcases hw with rfl | rfl | rfl | rfl | rfl
  · rw [pw_let] at hk
    rcases List.mem_append.mp hk with e | e
    · obtain ⟨q, hq, rfl⟩ := List.mem_map.mp e
      exact her_nth hP (her_tl hP (her_arg hP h 0) hq) 1
    · rw [List.mem_singleton.mp e]
      exact her_arg hP h 1
  · rw [pw_seq] at hk
    exact h _ (List.mem_of_mem_drop hk)
  · rw [pw_case] at hk
    exact hg k hk
  · rw [pw_pick] at hk
    exact hg k hk
  · rw [pw_note] at hk
    rw [List.mem_singleton.mp hk]
    exact her_arg hP h 1
theorem her_inner {w : Str} {r : List Dd} {q : List Str × Dd} (hP : Her P) (h : ∀ k ∈ r, P k) (hq : q ∈ innerW w r) : P q.2 := by
  unfold innerW at hq
  by_cases c1 : w = "later"
  · rw [if_pos c1] at hq
    rw [List.mem_singleton.mp hq]
    exact her_arg hP h 0
  · rw [if_neg c1] at hq
    by_cases c2 : w ∈ coreWords
    · rw [if_pos c2] at hq
      exact her_part hP h c2 (List.of_mem_zip hq).2
    · rw [if_neg c2] at hq
      cases hq
theorem her_atom {w : Str} {r : List Dd} {a : Dd} (hP : Her P) (h : ∀ k ∈ r, P k) (ha : a ∈ atomsW w r) : P a := by
  unfold atomsW at ha
  split at ha
  · rw [List.mem_singleton.mp ha]; exact her_arg hP h 0
  · split at ha
    · rcases List.mem_cons.mp ha with e | e
      · rw [e]; exact her_arg hP h 0
      · exact her_tl hP (her_arg hP h 1) e
    · split at ha
      · exact her_tl hP (her_arg hP h 1) ha
      · split at ha
        · exact h _ (List.mem_of_mem_drop ha)
        · cases ha
theorem badA_her {f ix : Str → Option Int} {a : Dd} {z : Str} (h : P a) (e : badA f ix a = some z) : P (.str z) := by
  cases a with
  | str s =>
    have e : (if (f s).isSome then none else if (ix s).isSome then none else some s) = some z := e
    split at e
    · cases e
    · split at e
      · cases e
      · cases e
        exact h
  | int i => cases e
  | bl b => cases e
  | non => cases e
  | tup l => cases e
  | lst l => cases e
theorem badL_her {f ix : Str → Option Int} {l : List Dd} {z : Str} (h : ∀ a ∈ l, P a) (e : badL f ix l = some z) : P (.str z) := by
  obtain ⟨a, ha, hz⟩ := List.exists_of_findSome?_eq_some e
  exact badA_her (h a ha) hz
theorem opsBad_her {f ix : Str → Option Int} {w : Str} {r : List Dd} {z : Str} (hP : Her P) (h : ∀ k ∈ r, P k) (e : opsBad f ix w r = some z) : P (.str z) := by
  have hl : badL f ix (atomsW w r) = some z → P (.str z) := badL_her fun a ha => her_atom hP h ha
  unfold opsBad at e
  split at e
  · cases e
  · split at e
    · rcases Option.or_eq_some_iff.mp e with e | ⟨_, e⟩
      · exact badA_her (her_arg hP h 0) e
      · exact hl e
    · exact hl e
theorem unkT_her {gs : List Str} (hP : Her P) : ∀ (n : Nat) (k : Dd) (S : List Str) (z : Str), P k → unkT gs n S k = some z → P (.str z)
  | 0, k, S, z, _, e => by cases e
  | n + 1, k, S, z, h, e => by
    match k, h, e with
    | .tup (.str w :: r), h, e =>
      have hs : ∀ k ∈ r, P k := fun k hk => hP.tup h (List.mem_cons_of_mem _ hk)
      have e : (opsBad (inS S) (inS gs) w r).or ((innerW w r).findSome? fun q => unkT gs n (S ++ q.1) q.2) = some z := e
      rcases Option.or_eq_some_iff.mp e with e | ⟨_, e⟩
      · exact opsBad_her hP hs e
      · obtain ⟨q, hq, hz⟩ := List.exists_of_findSome?_eq_some e
        exact unkT_her hP n _ _ z (her_inner hP hs hq) hz
end
theorem ats_mem {B : Addr → Prop} {H : Hp} : ∀ {l : List Dd} {xs : List V} {k : Dd}, Dd.Ats B H l xs → k ∈ l → ∃ x, k.At B H x
  | t :: l, _, k, ⟨x, ys, _, h, hs⟩, hk => by
    rcases List.mem_cons.mp hk with e | e
    · rw [e]; exact ⟨x, h⟩
    · exact ats_mem hs e
theorem unk_len {gs S : List Str} {B : Addr → Prop} {H : Hp} {k : Dd} {v : V} {z : Str} (h : k.At B H v) (e : unk gs S k = some z) : z.length ≤ 1000 := by
  obtain ⟨x, hx⟩ := unkT_her (P := fun k => ∃ x, k.At B H x) ⟨fun {l k} ⟨x, a, xs, _, _, hs⟩ hk => ats_mem hs hk, ⟨.non, rfl⟩⟩ _ k S z ⟨v, h⟩ e
  exact hx.2
theorem unk_so {gs S : List Str} {k : Dd} {z : Str} (h : k.so = true) (e : unk gs S k = some z) : PyData.strOk z = true :=
  unkT_her (P := fun k => k.so = true) ⟨fun h hk => sos_all.mp h _ hk, rfl⟩ _ k S z h e
end Toy

set_option Elab.async false
set_option linter.all false
set_option maxRecDepth 100000
set_option maxHeartbeats 4000000
/-! Part W6: atoms and names drawn. -/
namespace Toy
open PySem L2
open PyProof.Rows (envOfC)
theorem Keep.refl (p : Addr) (H : Hp) : Keep p H H := fun _ _ _ e => e
theorem Keep.same {p : Addr} {H H' : Hp} (s : Same H H') : Keep p H H' := fun b o _ e => s b o e
theorem Keep.trans {p : Addr} {H1 H2 H3 : Hp} (h : Keep p H1 H2) (k : Keep p H2 H3) : Keep p H1 H3 := fun b o n e => k b o n (h b o n e)
theorem Keep.free {p : Addr} {H H' : Hp} (k : Keep p H H') {a : Addr} (n : a ≠ p) (h : H' a = none) : H a = none := by
  cases e : H a with
  | none => rfl
  | some o => rw [k a o n e] at h; cases h
theorem keep_upd {p D : Addr} {H H' : Hp} (h : H D = none) (k : Keep p H H') (o : HO) : Keep p H (upd H' D o) := fun b u n e => by
  rw [upd_ne (fun z => by rw [z, h] at e; cases e)]
  exact k b u n e
/-- the names that may be used: those in scope, those of functions -/
structure ScG (H : Hp) (sc gc : Addr) (S gs : List Str) : Prop where
  s : H sc = some (.lst (S.map V.str))
  g : H gc = some (.lst (gs.map V.str))
  so : ∀ x ∈ S, nmOk x
  go : ∀ x ∈ gs, isName (.str x) = true
  g0 : 0 < gs.length
  gl : gs.length ≤ 1000
theorem ScG.keep {H H' : Hp} {p r sc gc : Addr} {S gs : List Str} {B : Nat} (h : ScG H sc gc S gs) (k : Keep p H H') (d : DrawsAt H p r B) : ScG H' sc gc S gs :=
  ⟨k _ _ (d.ne_list h.s) h.s, k _ _ (d.ne_list h.g) h.g, h.so, h.go, h.g0, h.gl⟩
theorem ScG.same {H H' : Hp} {sc gc : Addr} {S gs : List Str} (h : ScG H sc gc S gs) (k : Same H H') : ScG H' sc gc S gs :=
  ⟨k _ _ h.s, k _ _ h.g, h.so, h.go, h.g0, h.gl⟩
structure TxtW (mg : Str → Option Value) : Prop where
  zlen : mg "len" = none
  zstr : mg "str" = none
  zrange : mg "range" = none
  ztuple : mg "tuple" = none
section
variable {P : Program} {w : World} {K : PySem.W.Frag} {mg : Str → Option Value} {base : Heap}
abbrev sLAt : Stmt := topS 50
theorem scLAt : FnScope ["w", "scope", "functions", "turn"] ["w", "scope", "functions"] (defScope sLAt) := ⟨rfl, rfl, rfl, by decide +kernel, rfl, by decide +kernel, by decide +kernel⟩
def spLAtom : Sp := fun vs H Q _ => ∃ (p r sc gc : Addr) (B : Nat) (S gs : List Str), vs = [.ref p, .ref sc, .ref gc] ∧ DrawsAt H p r B ∧ ScG H sc gc S gs ∧ S.length ≤ 1000 ∧ ∀ (v : V) (k : Dd) (H' : Hp), Keep p H H' → DrawsAt H' p r B → (∀ G, k.At F0 G v) → atmB k = true → Q v H'
theorem c_latom {f : Addr} {fd : FuncData} (T : TxtD mg) (c_law_next : C8.Cal P w K mg base 2 "_law_next" spNext []) (F : Fun K "_law_atom" "_law_atom" sLAt f fd) (b : Binds K fd ["w", "scope", "functions"] []) (hm : mg "_law_atom" = some (.ref f)) : C8.Cal P w K mg base 3 "_law_atom" spLAtom [] := by
  refine cal_of F hm b scLAt (fun vs H Q E h => ?_) (fun cdv A outer s H vs Q E hr h => ?_)
  · obtain ⟨p, r, sc, gc, B, S, gs, rfl, _⟩ := h
    rfl
  obtain ⟨p, r, sc, gc, B, S, gs, rfl, d0, hS, hSl, q⟩ := h
  have hu64 := hr.units
  refine ⟨_, (pss_cons (ps_set (i := 3) scLAt.nd rfl (Or.inl rfl) (C8.pe_c c_law_next hr (by decide) rfl (pa_cons (pv 0) (pa_cons pe_int pa_nil))))
    (pss_cons (ps_if (PW.pt (pw_or (pt_cmpR op_eq (pv 3) pe_int (nomark _)) (pw_or1 (pt_cmpR (op_eqD hu64) (pv 1) (pe_lst pa_nil) (nomark _)))))
      (pss_cons (ps_if (pt_cmpR op_lt (pv 3) pe_int (nomark _))
      (pss_one (ps_ret (pe_op op_sub (C8.pe_c c_law_next hr (by decide) rfl (pa_cons (pv 0) (pa_cons pe_int pa_nil))) pe_int)))
      pss_nil)
    (pss_one (ps_ret (pe_ix ix_list (pv 2) (C8.pe_c c_law_next hr (by decide) rfl (pa_cons (pv 0) (pa_cons (pe_callB call_len_seq rfl T.zlen PySem.boot_len (pa_cons (pv 2) pa_nil)) pa_nil))) (fun _ _ => rfl)))))
      pss_nil)
    (pss_one (ps_ret (pe_ix ix_list (pv 1) (C8.pe_c c_law_next hr (by decide) rfl (pa_cons (pv 0) (pa_cons (pe_callB call_len_seq rfl T.zlen PySem.boot_len (pa_cons (pv 1) pa_nil)) pa_nil))) (fun _ _ => rfl)))))), ?_⟩
  refine ⟨_, rfl, p, r, 5, _, rfl, (by decide), d0, fun u H1 u0 u1 k1 d1 => ?_⟩
  have hS1 := hS.keep k1 d0
  have one : ∀ (H2 : Hp), Keep p H H2 → DrawsAt H2 p r B → ScG H2 sc gc S gs → ∀ (xc : Addr) (X : List Str), H2 xc = some (.lst (X.map V.str)) → (∀ x ∈ X, isName (.str x) = true) → 0 < X.length → ∀ n H3, 0 ≤ n → n < (X.length : Int) → Keep p H2 H3 → DrawsAt H3 p r B → ∃ z, atI (X.map V.str) n = some (.str z) ∧ SqL K H3 xc (X.map V.str) ∧ Q (.str z) H3 := fun H2 k2 d2 hS2 xc X hx hX h0 n H3 n0 n1 k3 d3 => by
    obtain ⟨z, hz, ez⟩ := at_str (zs := X) n0 n1
    exact ⟨z, ez, SqL.of (k3 _ _ (d2.ne_list hx) hx), q _ (.str z) _ (k2.trans k3) d3 (fun G => ⟨rfl, str_le (d := .str z) (hX z hz)⟩) (atmB_str (hX z hz))⟩
  have two : ∀ (H2 : Hp), Keep p H H2 → DrawsAt H2 p r B → ScG H2 sc gc S gs → (∀ n H3, 0 ≤ n → n < 40 → Keep p H2 H3 → DrawsAt H3 p r B → Q (.int (n - 5)) H3) ∧ ∀ n H3, 0 ≤ n → n < (gs.length : Int) → Keep p H2 H3 → DrawsAt H3 p r B → ∃ z, atI (gs.map V.str) n = some (.str z) ∧ SqL K H3 gc (gs.map V.str) ∧ Q (.str z) H3 := fun H2 k2 d2 hS2 => by
    refine ⟨fun n H3 n0 n1 k3 d3 => ?_, one H2 k2 d2 hS2 gc gs hS2.g hS2.go hS2.g0⟩
    exact q _ (.int (n - 5)) _ (k2.trans k3) d3 (fun G => rfl) rfl
  refine ⟨_, rfl, rfl, _, rfl, ?_⟩
  show if decide (V.int u = V.int 0) = true then _ else _
  rcases Bool.eq_false_or_eq_true (decide (V.int u = V.int 0)) with c | c
  · rw [c]
    refine iteT (iteT ?_)
    obtain ⟨t1, t2⟩ := two H1 k1 d1 hS1
    refine ⟨_, rfl, _, _, rfl, rfl, _, rfl, ?_⟩
    refine ite2 (fun _ => ?_) (fun _ => ?_)
    · exact ⟨_, rfl, p, r, 40, _, rfl, (by decide), d1, fun n H2 n0 n1 k2 d2 => ⟨_, _, rfl, rfl, t1 n H2 n0 n1 k2 d2⟩⟩
    · refine ⟨_, rfl, _, rfl, _, rfl, gc, _, rfl, .inl (SqL.of hS1.g), p, r, _, _, rfl, by rw [List.length_map]; have := hS.g0; omega, d1, fun n H2 n0 n1 k2 d2 => ?_⟩
      obtain ⟨z, e1, e2, e3⟩ := t2 n H2 n0 (by rw [List.length_map] at n1; exact n1) k2 d2
      exact ⟨gc, _, _, _, rfl, rfl, e2, e1, e3⟩
  rw [c]
  refine iteF ?_
  refine ⟨_, rfl, by show 0 ≤ sizeLine; decide, fun l0 hl0 => ?_⟩
  have s2 := same_new hl0 (.lst [])
  have e2 : upd H1 l0 (.lst []) l0 = some (.lst (([] : List Str).map V.str)) := upd_same
  have hS2 := hS1.same s2
  have d2 := d1.same s2
  have k2 := k1.trans (Keep.same (p := p) s2)
  generalize upd H1 l0 (.lst []) = H2 at s2 e2 hS2 d2 k2 ⊢
  refine ⟨_, _, .lst (SqL.of hS2.s) (strs_dp S), .lst (SqL.of e2) (strs_dp []), strs_shaped (fun y h => (hS.so y h).1), strs_shaped (fun y h => absurd h List.not_mem_nil), _, rfl, ?_⟩
  show if PyData.eqv (.list (S.map PyData.str)) (.list []) = true then _ else _
  rw [strs_nil]
  by_cases c2 : S = []
  · rw [decide_eq_true c2]
    refine iteT ?_
    obtain ⟨t1, t2⟩ := two H2 k2 d2 hS2
    refine ⟨_, rfl, _, _, rfl, rfl, _, rfl, ?_⟩
    refine ite2 (fun _ => ?_) (fun _ => ?_)
    · exact ⟨_, rfl, p, r, 40, _, rfl, (by decide), d2, fun n H2 n0 n1 k2 d2 => ⟨_, _, rfl, rfl, t1 n H2 n0 n1 k2 d2⟩⟩
    · refine ⟨_, rfl, _, rfl, _, rfl, gc, _, rfl, .inl (SqL.of hS2.g), p, r, _, _, rfl, by rw [List.length_map]; have := hS.g0; omega, d2, fun n H2 n0 n1 k2 d2 => ?_⟩
      obtain ⟨z, e1, e2, e3⟩ := t2 n H2 n0 (by rw [List.length_map] at n1; exact n1) k2 d2
      exact ⟨gc, _, _, _, rfl, rfl, e2, e1, e3⟩
  rw [decide_eq_false c2]
  refine iteF ?_
  have hpos : 0 < S.length := List.length_pos_iff.mpr c2
  refine ⟨_, rfl, _, rfl, _, rfl, sc, _, rfl, .inl (SqL.of hS2.s), p, r, _, _, rfl, by rw [List.length_map]; omega, d2, fun n H3 n0 n1 k3 d3 => ?_⟩
  obtain ⟨z, e1, e2, e3⟩ := one H2 k2 d2 hS2 sc S hS2.s (fun x hx => (hS.so x hx).1) hpos n H3 n0 (by rw [List.length_map] at n1; exact n1) k3 d3
  exact ⟨sc, _, _, _, rfl, rfl, e2, e1, e3⟩
abbrev sLAts : Stmt := topS 51
theorem scLAts : FnScope ["w", "scope", "functions", "many", "k"] ["w", "scope", "functions", "many"] (defScope sLAts) := ⟨rfl, rfl, rfl, by decide +kernel, rfl, by decide +kernel, by decide +kernel⟩
def spLAtoms : Sp := fun vs H Q _ => ∃ (p r sc gc : Addr) (B m : Nat) (S gs : List Str), vs = [.ref p, .ref sc, .ref gc, .int (m : Int)] ∧ m ≤ 3 ∧ DrawsAt H p r B ∧ ScG H sc gc S gs ∧ S.length ≤ 1000 ∧ ∀ (t : Addr) (l : List Dd) (xs : List V) (H' : Hp), Keep p H H' → DrawsAt H' p r B → H' t = some (.tup xs) → (∀ G, Dd.Ats F0 G l xs) → l.length = m → (∀ a ∈ l, atmB a = true) → Q (.ref t) H'
theorem c_latoms {f : Addr} {fd : FuncData} (T : TxtW mg) (c_law_atom : C8.Cal P w K mg base 3 "_law_atom" spLAtom []) (F : Fun K "_law_atoms" "_law_atoms" sLAts f fd) (b : Binds K fd ["w", "scope", "functions", "many"] []) (hm : mg "_law_atoms" = some (.ref f)) : C8.Cal P w K mg base 4 "_law_atoms" spLAtoms [] := by
  refine cal_of F hm b scLAts (fun vs H Q E h => ?_) (fun cdv A outer s H vs Q E hr h => ?_)
  · obtain ⟨p, r, sc, gc, B, m, S, gs, rfl, _⟩ := h
    rfl
  obtain ⟨p, r, sc, gc, B, m, S, gs, rfl, hm3, d0, hS, hSl, q⟩ := h
  have hbig := big
  refine ⟨_, (pss_one (ps_ret (pe_callTy call_tuple_of rfl T.ztuple boot_tuple (pa_cons (pe_lc (own := [("k", 4)]) (g := gName 4) (tt := tYes) rfl scLAts.nd (pi_range1 rfl T.zrange (pa_cons (pv 3) pa_nil)) (blkOk_by (own := [("k", 4)]) (N := ["w", "scope", "functions", "many", "k"]) (sc := defScope sLAts) (by decide +kernel)) (fun _ _ _ _ _ => (pg_name (i := 4) scLAts.nd rfl (Or.inl rfl))) (fun _ _ _ _ _ => pts_nil) (fun _ _ _ _ _ => (C8.pe_c c_law_atom hr (by decide) rfl (pa_cons (pv 0) (pa_cons (pv 1) (pa_cons (pv 2) pa_nil)))))) pa_nil)))), ?_⟩
  refine ⟨_, rfl, (m : Int), rfl, by omega, by omega, fun D hD => ?_⟩
  obtain ⟨nDp, nDr⟩ := d0.fresh hD
  refine lc_range (Pv := fun i G' => ∃ (l : List Dd) (xs : List V), G' D = some (.lst xs) ∧ Keep p H G' ∧ DrawsAt G' p r B ∧ (∀ G, Dd.Ats F0 G l xs) ∧ l.length = i ∧ ∀ a ∈ l, atmB a = true) ⟨[], [], upd_same, Keep.same (same_new hD _), d0.same (same_new hD _), fun _ => rfl, rfl, fun q h => absurd h List.not_mem_nil⟩ ?_ ?_
  · rintro i G' hi ⟨l, xs, h1, h2, h3, h4, h5, h6⟩
    have hi2 : i ≤ 2 := by omega
    have hxl := ats_len (h4 H)
    refine ⟨rfl, ?_⟩
    refine tYes_if ?_
    refine ⟨_, rfl, _, rfl, _, rfl, p, r, sc, gc, _, S, gs, rfl, h3, hS.keep h2 d0, hSl, fun v k G2 k2 d2 a2 hg => ?_⟩
    have h1' := k2 _ _ nDp h1
    refine ⟨xs, h1', szl (by omega), l ++ [k], xs ++ [v], upd_same, keep_upd hD (h2.trans k2) _, d2.off nDp nDr _, fun G => ats_app (h4 G) (ats_one (a2 G)), by rw [List.length_append, h5]; rfl, fun y hy => ?_⟩
    rcases List.mem_append.mp hy with z | z
    · exact h6 y z
    · rw [List.mem_singleton.mp z]
      exact hg
  rintro G ⟨l, xs, h1, h2, h3, h4, h5, h6⟩
  rw [Int.toNat_natCast] at h5
  refine ⟨D, xs, rfl, .inl ⟨SqL.of h1, fun t ht => ?_⟩⟩
  have st := same_new ht (.tup xs)
  exact q t l xs _ (h2.trans (Keep.same st)) (h3.same st) upd_same h4 h5 h6
abbrev sFresh : Stmt := topS 52
theorem scFresh : FnScope ["w"] ["w"] (defScope sFresh) := ⟨rfl, rfl, rfl, by decide +kernel, rfl, by decide +kernel, by decide +kernel⟩
def spFresh : Sp := fun vs H Q _ => ∃ (p r : Addr) (B : Nat), vs = [.ref p] ∧ DrawsAt H p r B ∧ B < 400000 ∧ ∀ (z : Str) (H' : Hp), nmOk z → Keep p H H' → DrawsAt H' p r (B + 1) → Q (.str z) H'
theorem c_fresh {f : Addr} {fd : FuncData} (T : TxtW mg) (c_law_next : C8.Cal P w K mg base 2 "_law_next" spNext []) (F : Fun K "_law_fresh" "_law_fresh" sFresh f fd) (b : Binds K fd ["w"] []) (hm : mg "_law_fresh" = some (.ref f)) : C8.Cal P w K mg base 3 "_law_fresh" spFresh [] := by
  refine cal_of F hm b scFresh (fun vs H Q E h => ?_) (fun cdv A outer s H vs Q E hr h => ?_)
  · obtain ⟨p, r, B, rfl, _⟩ := h
    rfl
  obtain ⟨p, r, B, rfl, ⟨row, i, f0, hp, hrow, hf0, hf1⟩, hB, q⟩ := h
  have hu := hu_of hr
  have npr : r ≠ p := ne_of hrow hp (by intro z; cases z)
  refine ⟨_, (pss_cons (ps_daug hu (pv 0) pe_str pe_int ip_add (fun _ _ _ => rfl))
    (pss_cons (ps_if (pt_cmpR op_eq (C8.pe_c c_law_next hr (by decide) rfl (pa_cons (pv 0) (pa_cons pe_int pa_nil))) pe_int (nomark _))
      (pss_one (ps_ret pe_str))
      pss_nil)
    (pss_one (ps_ret (pe_op op_add_str pe_str (pe_callTy call_str_int rfl T.zstr boot_str (pa_cons (pe_dget hu (pv 0) pe_str (fun _ _ => rfl)) pa_nil))))))), ?_⟩
  refine ⟨_, rfl, p, _, rfl, (dk_fresh r _ _ ▸ DGet.k (k := Sum.inr "fresh") hp), ?_⟩
  refine ⟨_, _, rfl, rfl, _, DPut.k (k := Sum.inr "fresh") hp (by show 3 < sizeLine; decide), ?_⟩
  rw [dk_putf]
  have k2 : Keep p H (upd H p (.dK (dk3 r (i : Int) (f0 + 1)))) := fun b o hb e => by rw [upd_ne hb]; exact e
  have d2 : DrawsAt (upd H p (.dK (dk3 r (i : Int) (f0 + 1)))) p r (B + 1) := ⟨row, i, f0 + 1, upd_same, by rw [upd_ne npr]; exact hrow, by omega, by omega⟩
  generalize upd H p (.dK (dk3 r (i : Int) (f0 + 1))) = H2 at k2 d2 ⊢
  refine ⟨_, rfl, p, r, 6, _, rfl, (by decide), d2, fun u H3 u0 u1 k3 d3 => ?_⟩
  have k03 := k2.trans k3
  refine ⟨rfl, _, rfl, ?_⟩
  show if decide (V.int u = V.int 0) = true then _ else _
  rcases Bool.eq_false_or_eq_true (decide (V.int u = V.int 0)) with c | c
  · rw [c]
    refine iteT ?_
    exact q _ _ nm_x k03 d3
  · rw [c]
    refine iteF ?_
    have d3' := d3
    obtain ⟨row, i, n, hp3, hrow3, hn0, hn1⟩ := d3
    have hx : nmOk (xN n) := nm_xN hn0 (by omega)
    have hl : (Str.ofString (toString n)).length ≤ 10 := PySem.W.KT.len_num hn0 (by omega)
    have hlog : n.natAbs.log2 < 1920 := by
      rcases Nat.eq_zero_or_pos n.natAbs with e | e
      · rw [e]; decide
      · exact (Nat.log2_lt (by omega)).mpr (Nat.lt_of_lt_of_le (show n.natAbs < 2 ^ 34 by omega) (Nat.pow_le_pow_right (by decide) (by decide)))
    refine ⟨_, rfl, p, _, rfl, (dk_fresh r _ _ ▸ DGet.k (k := Sum.inr "fresh") hp3), _, rfl, hlog, _, _, rfl, rfl, ?_, q _ _ hx k03 d3'⟩
    have := big
    show 1 + _ ≤ _
    omega
abbrev sNames : Stmt := topS 53
theorem scNames : FnScope ["w", "many", "names", "k", "name"] ["w", "many"] (defScope sNames) := ⟨rfl, rfl, rfl, by decide +kernel, rfl, by decide +kernel, by decide +kernel⟩
def spNames : Sp := fun vs H Q _ => ∃ (p r : Addr) (B m : Nat), vs = [.ref p, .int (m : Int)] ∧ m ≤ 3 ∧ DrawsAt H p r B ∧ B + 3 ≤ 400000 ∧ ∀ (L : Addr) (zs : List Str) (H' : Hp), Keep p H H' → DrawsAt H' p r (B + m) → H L = none → H' L = some (.lst (zs.map V.str)) → (∀ z ∈ zs, nmOk z) → zs.Nodup → zs.length ≤ m → (0 < m → 0 < zs.length) → Q (.ref L) H'
theorem c_names {f : Addr} {fd : FuncData} (T : TxtW mg) (c_law_fresh : C8.Cal P w K mg base 3 "_law_fresh" spFresh []) (F : Fun K "_law_names" "_law_names" sNames f fd) (b : Binds K fd ["w", "many"] []) (hm : mg "_law_names" = some (.ref f)) : C8.Cal P w K mg base 4 "_law_names" spNames [] := by
  refine cal_of F hm b scNames (fun vs H Q E h => ?_) (fun cdv A outer s H vs Q E hr h => ?_)
  · obtain ⟨p, r, B, m, rfl, _⟩ := h
    rfl
  obtain ⟨p, r, B, m, rfl, hm3, d0, hB, q⟩ := h
  have hbig := big
  refine ⟨_, (pss_cons (ps_set (i := 2) scNames.nd rfl (Or.inl rfl) (pe_lst pa_nil))
    (pss_cons (ps_for PassesOwn.never rfl (pi_range1 rfl T.zrange (pa_cons (pv 1) pa_nil)) (pg_name (i := 3) scNames.nd rfl (Or.inl rfl))
      (pss_cons (ps_set (i := 4) scNames.nd rfl (Or.inl rfl) (C8.pe_c c_law_fresh hr (by decide) rfl (pa_cons (pv 0) pa_nil)))
    (pss_one (ps_if (pt_cmpR op_notIn_seq (pv 4) (pv 2) rfl)
      (pss_one (ps_expr (pe_bm PySem.F.plainAttrs_list PySem.F.slot_list_append PySem.F.type_list_append mt_append (pv 2) (pa_cons (pv 4) pa_nil))))
      pss_nil))))
    (pss_one (ps_ret (pv 2))))), ?_⟩
  refine ⟨by show 0 ≤ sizeLine; decide, fun L hL => ?_⟩
  obtain ⟨nLp, nLr⟩ := d0.fresh hL
  have s0 := same_new hL (.lst [])
  refine ⟨_, rfl, (m : Int), rfl, by omega, by omega, for_range (fun (i : Nat) σ G => ∃ (v3 v4 : Option V) (zs : List Str), σ = [some (.ref p), some (.int (m : Int)), some (.ref L), v3, v4] ∧ Keep p H G ∧ DrawsAt G p r (B + i) ∧ G L = some (.lst (zs.map V.str)) ∧ (∀ z ∈ zs, nmOk z) ∧ zs.Nodup ∧ zs.length ≤ i ∧ (0 < i → 0 < zs.length))
    ⟨_, _, [], rfl, Keep.same s0, d0.same s0, upd_same, fun q h => absurd h List.not_mem_nil, List.nodup_nil, Nat.le_refl _, fun z => absurd z (by decide)⟩ ?_ ?_⟩
  · rintro i σ G hi ⟨v3, v4, zs, rfl, kG, dG, hG, h4, h5, h6, h7⟩
    have hi3 : i ≤ 2 := by omega
    refine ⟨_, rfl, p, r, _, rfl, dG, by omega, fun z G2 hz k2 d2 => ?_⟩
    have hG2 := k2 _ _ nLp hG
    refine ⟨_, rfl, _, rfl, L, _, rfl, .inl (SqL.of hG2), rfl, flat_strs _, _, rfl, ?_⟩
    have nin : (if true = true then !inV (.str z) (zs.map V.str) else inV (.str z) (zs.map V.str)) = !decide (z ∈ zs) := by rw [if_pos rfl, inV_strs]
    rw [nin]
    by_cases hn : z ∈ zs
    · rw [decide_eq_true hn]
      refine iteF ?_
      exact ⟨_, _, zs, rfl, kG.trans k2, d2, hG2, h4, h5, by omega, fun _ => List.length_pos_of_mem hn⟩
    · rw [decide_eq_false hn]
      refine iteT ?_
      refine ⟨_, rfl, .inl ⟨rfl, _, SqL.of hG2⟩, _, rfl, L, _, _, rfl, rfl, hG2, szl (by rw [List.length_map]; omega), _, _, zs ++ [z], rfl, keep_upd hL (kG.trans k2) _, d2.off nLp nLr _, by rw [upd_same, List.map_append]; rfl, fun y hy => ?_, ?_, by rw [List.length_append]; show zs.length + 1 ≤ _; omega, fun _ => by rw [List.length_append]; exact Nat.succ_pos _⟩
      · rcases List.mem_append.mp hy with e | e
        · exact h4 y e
        · rw [List.mem_singleton.mp e]; exact hz
      · rw [List.nodup_append]
        exact ⟨h5, List.pairwise_singleton _ _, fun a ha b hb e => hn (by rw [← List.mem_singleton.mp hb, ← e]; exact ha)⟩
  rintro σ G ⟨v3, v4, zs, rfl, kG, dG, hG, h4, h5, h6, h7⟩
  rw [Int.toNat_natCast] at dG h6 h7
  exact ⟨_, rfl, q L zs G kG dG hL hG h4 h5 h6 h7⟩
end
end Toy

set_option Elab.async false
set_option linter.all false
set_option maxRecDepth 100000
set_option maxHeartbeats 4000000
/-! Part X6: members and defaults drawn. -/
namespace Toy
open PySem L2
open PyProof.Rows (envOfC)
theorem p5n (e : Nat) : 5 ^ (e + 1) = 5 * 5 ^ e := by rw [Nat.pow_succ]; omega
theorem pow_pos5 (e : Nat) : 1 ≤ 5 ^ e := Nat.pos_of_ne_zero fun z => by have := Nat.pow_eq_zero.mp z; omega
/-- new names and signs of a body of this depth at most -/
def zB (e : Nat) : Nat := 40 * 5 ^ e - 20
theorem zB_s (e : Nat) : zB (e + 1) = 5 * zB e + 80 := by
  have h := pow_pos5 e
  unfold zB
  rw [p5n]
  omega
theorem zB_ge (e : Nat) : 20 ≤ zB e := by
  have h := pow_pos5 e
  unfold zB
  omega
section
variable {P : Program} {w : World} {K : PySem.W.Frag} {mg : Str → Option Value} {base : Heap}
def spLBody (n : Nat) : Sp := fun vs H Q _ => ∃ (p r sc gc : Addr) (B e : Nat) (d : Int) (S gs : List Str), vs = [.ref p, .int d, .ref sc, .ref gc] ∧ d ≤ (e : Int) ∧ e < n ∧ DrawsAt H p r B ∧ ScG H sc gc S gs ∧ S.length + 3 * e ≤ 900 ∧ B + zB e ≤ 399000 ∧
  ∀ (v : V) (k : Dd) (H' : Hp), Keep p H H' → DrawsAt H' p r (B + zB e) → k.At F0 H' v → Dw (2 * e + 1) true k → k.sz ≤ zB e → Q v H'
def spLMember (n : Nat) : Sp := fun vs H Q _ => ∃ (p r sc gc : Addr) (B e : Nat) (d : Int) (S gs : List Str), vs = [.ref p, .int d, .ref sc, .ref gc] ∧ d ≤ (e : Int) + 1 ∧ e < n ∧ DrawsAt H p r B ∧ ScG H sc gc S gs ∧ S.length + 3 * e ≤ 900 ∧ B + zB e ≤ 399000 ∧
  ∀ (v : V) (k : Dd) (H' : Hp), Keep p H H' → DrawsAt H' p r (B + zB e) → k.At F0 H' v → Dw (2 * e + 2) false k → k.sz ≤ zB e + 2 → Q v H'
theorem tup_szA {l : List Dd} {m : Nat} (h : ∀ a ∈ l, atmB a = true) (hl : l.length = m) : (Dd.tup l).sz = 1 + m := by
  show 1 + Dd.szs l = 1 + m
  rw [szs_ones h, hl]
abbrev sLMem : Stmt := topS 54
theorem scLMem : FnScope ["w", "depth", "scope", "functions", "turn"] ["w", "depth", "scope", "functions"] (defScope sLMem) := ⟨rfl, rfl, rfl, by decide +kernel, rfl, by decide +kernel, by decide +kernel⟩
theorem c_lmember {f : Addr} {fd : FuncData} {n : Nat} (T : TxtW mg) (c_law_next : C8.Cal P w K mg base 2 "_law_next" spNext []) (c_law_atoms : C8.Cal P w K mg base 4 "_law_atoms" spLAtoms []) (c_law_body : C8.Cal P w K mg base (3 * n + 5) "_law_body" (spLBody n) []) (F : Fun K "_law_member" "_law_member" sLMem f fd) (b : Binds K fd ["w", "depth", "scope", "functions"] []) (hm : mg "_law_member" = some (.ref f)) : C8.Cal P w K mg base (3 * n + 6) "_law_member" (spLMember n) [] := by
  refine cal_of F hm b scLMem (fun vs H Q E h => ?_) (fun cdv A outer s H vs Q E hr h => ?_)
  · obtain ⟨p, r, sc, gc, B, e, d, S, gs, rfl, _⟩ := h
    rfl
  obtain ⟨p, r, sc, gc, B, e, d, S, gs, rfl, hd, hen, d0, hS, hSl, hB, q⟩ := h
  have hz20 := zB_ge e
  refine ⟨_, (pss_cons (ps_set (i := 4) scLMem.nd rfl (Or.inl rfl) (C8.pe_c c_law_next hr (by omega) rfl (pa_cons (pv 0) (pa_cons pe_int pa_nil))))
    (pss_cons (ps_if (pt_cmpR op_eq (pv 4) pe_int (nomark _))
      (pss_one (ps_ret (pe_tup (pa_cons pe_str (pa_cons (C8.pe_c c_law_next hr (by omega) rfl (pa_cons (pv 0) (pa_cons pe_int pa_nil))) (pa_cons (C8.pe_c c_law_atoms hr (by omega) rfl (pa_cons (pv 0) (pa_cons (pv 2) (pa_cons (pv 3) (pa_cons (C8.pe_c c_law_next hr (by omega) rfl (pa_cons (pv 0) (pa_cons pe_int pa_nil))) pa_nil))))) pa_nil))))))
      pss_nil)
    (pss_cons (ps_if (pt_cmpR op_eq (pv 4) pe_int (nomark _))
      (pss_one (ps_ret (pe_tup (pa_cons pe_str (pa_cons (pe_ix ix_list (pv 3) (C8.pe_c c_law_next hr (by omega) rfl (pa_cons (pv 0) (pa_cons (pe_callB call_len_seq rfl T.zlen PySem.boot_len (pa_cons (pv 3) pa_nil)) pa_nil))) (fun _ _ => rfl)) (pa_cons (C8.pe_c c_law_atoms hr (by omega) rfl (pa_cons (pv 0) (pa_cons (pv 2) (pa_cons (pv 3) (pa_cons (pe_op op_add pe_int (C8.pe_c c_law_next hr (by omega) rfl (pa_cons (pv 0) (pa_cons pe_int pa_nil)))) pa_nil))))) pa_nil))))))
      pss_nil)
    (pss_one (ps_ret (pe_tup (pa_cons pe_str (pa_cons (C8.pe_c c_law_body hr (by omega) rfl (pa_cons (pv 0) (pa_cons (pe_op op_sub (pv 1) pe_int) (pa_cons (pv 2) (pa_cons (pv 3) pa_nil))))) pa_nil)))))))), ?_⟩
  refine ⟨_, rfl, p, r, 4, _, rfl, (by decide), d0, fun u H1 u0 u1 k1 d1 => ?_⟩
  have hS1 := hS.keep k1 d0
  refine ⟨_, rfl, rfl, _, rfl, ?_⟩
  show if decide (V.int u = V.int 0) = true then _ else _
  rcases Bool.eq_false_or_eq_true (decide (V.int u = V.int 0)) with c | c
  · rw [c]
    refine iteT ?_
    refine ⟨_, rfl, p, r, 4, _, rfl, (by decide), d1, fun i H2 i0 i1 k2 d2 => ?_⟩
    have hS2 := hS1.keep k2 d1
    refine ⟨_, rfl, _, rfl, _, rfl, _, rfl, p, r, 4, _, rfl, (by decide), d2, fun m H3 m0 m1 k3 d3 => ?_⟩
    refine ⟨p, r, sc, gc, _, m.toNat, S, gs, by rw [Int.toNat_of_nonneg m0]; rfl, by omega, d3, hS2.keep k3 d2, by omega, fun t l xs H4 k4 d4 et al hl hin => ⟨by show 3 ≤ sizeLine; decide, fun t5 ht5 => ?_⟩⟩
    have s5 := same_new ht5 (.tup [.str "con", .int i, .ref t])
    have hcz := tup_szA hin hl
    exact q _ (.tup [.str "con", .int i, .tup l]) _ ((((k1.trans k2).trans k3).trans k4).trans (Keep.same s5)) ((d4.same s5).more (by omega)) (at_tup upd_same (ats_cons (at_str' (by decide +kernel)) (ats_cons at_int' (ats_cons (at_tup (s5 _ _ et) (al _)) ats_nil)))) (dw_con hin) (by show 1 + (1 + (1 + ((Dd.tup l).sz + 0))) ≤ _; omega)
  rw [c]
  refine iteF ?_
  refine ⟨_, rfl, rfl, _, rfl, ?_⟩
  show if decide (V.int u = V.int 1) = true then _ else _
  rcases Bool.eq_false_or_eq_true (decide (V.int u = V.int 1)) with c2 | c2
  · rw [c2]
    refine iteT ?_
    refine ⟨_, rfl, _, rfl, _, rfl, gc, _, rfl, .inl (SqL.of hS1.g), ?_⟩
    have hg0 := hS1.g0
    refine ⟨p, r, _, _, rfl, by rw [List.length_map]; omega, d1, fun i H2 i0 i1 k2 d2 => ?_⟩
    rw [List.length_map] at i1
    have hS2 := hS1.keep k2 d1
    obtain ⟨z, hz, ez⟩ := at_str (zs := gs) i0 i1
    refine ⟨gc, _, _, _, rfl, rfl, SqL.of hS2.g, ez, ?_⟩
    refine ⟨_, rfl, _, rfl, _, rfl, _, rfl, p, r, 2, _, rfl, (by decide), d2, fun m H3 m0 m1 k3 d3 => ?_⟩
    refine ⟨_, _, rfl, rfl, p, r, sc, gc, _, (1 + m).toNat, S, gs, by rw [Int.toNat_of_nonneg (by omega)]; rfl, by omega, d3, hS2.keep k3 d2, by omega, fun t l xs H4 k4 d4 et al hl hin => ⟨by show 3 ≤ sizeLine; decide, fun t5 ht5 => ?_⟩⟩
    have s5 := same_new ht5 (.tup [.str "part", .str z, .ref t])
    have hcz := tup_szA hin hl
    exact q _ (.tup [.str "part", .str z, .tup l]) _ ((((k1.trans k2).trans k3).trans k4).trans (Keep.same s5)) ((d4.same s5).more (by omega)) (at_tup upd_same (ats_cons (at_str' (by decide +kernel)) (ats_cons (at_str' (str_le (d := .str z) (hS.go z hz))) (ats_cons (at_tup (s5 _ _ et) (al _)) ats_nil)))) (dw_part (name_okS (hS.go z hz)) hin) (by show 1 + (1 + (1 + ((Dd.tup l).sz + 0))) ≤ _; omega)
  rw [c2]
  refine iteF ?_
  refine ⟨_, rfl, _, rfl, _, _, rfl, rfl, _, rfl, _, rfl, p, r, sc, gc, _, e, _, S, gs, rfl, by omega, hen, d1, hS1, hSl, hB, fun v k H2 k2 d2 a2 h2 hz => ⟨by show 2 ≤ sizeLine; decide, fun t3 ht3 => ?_⟩⟩
  have s3 := same_new ht3 (.tup [.str "later", v])
  exact q _ _ _ ((k1.trans k2).trans (Keep.same s3)) (d2.same s3) (at_tup upd_same (ats_cons (at_str' (by decide +kernel)) (ats_cons (a2.keep (fr_same s3)) ats_nil))) (dw_later h2) (by show 1 + (1 + (k.sz + 0)) ≤ _; omega)
abbrev sLDef : Stmt := topS 55
theorem scLDef : FnScope ["w", "depth", "scope", "functions", "name"] ["w", "depth", "scope", "functions"] (defScope sLDef) := ⟨rfl, rfl, rfl, by decide +kernel, rfl, by decide +kernel, by decide +kernel⟩
def spLDefault (n : Nat) : Sp := fun vs H Q _ => ∃ (p r sc gc : Addr) (B e : Nat) (d : Int) (S gs : List Str), vs = [.ref p, .int d, .ref sc, .ref gc] ∧ d ≤ (e : Int) + 1 ∧ e < n ∧ DrawsAt H p r B ∧ ScG H sc gc S gs ∧ S.length + 1 + 3 * e ≤ 900 ∧ B + 1 + zB e ≤ 399000 ∧
  ∀ (v : V) (k : Dd) (H' : Hp), Keep p H H' → DrawsAt H' p r (B + 1 + zB e) → k.At F0 H' v → DfOk (2 * e + 1) (zB e) k → Q v H'
theorem c_ldefault {f : Addr} {fd : FuncData} {n : Nat} (T : TxtW mg) (c_law_next : C8.Cal P w K mg base 2 "_law_next" spNext []) (c_law_fresh : C8.Cal P w K mg base 3 "_law_fresh" spFresh []) (c_law_body : C8.Cal P w K mg base (3 * n + 5) "_law_body" (spLBody n) []) (F : Fun K "_law_default" "_law_default" sLDef f fd) (b : Binds K fd ["w", "depth", "scope", "functions"] []) (hm : mg "_law_default" = some (.ref f)) : C8.Cal P w K mg base (3 * n + 6) "_law_default" (spLDefault n) [] := by
  refine cal_of F hm b scLDef (fun vs H Q E h => ?_) (fun cdv A outer s H vs Q E hr h => ?_)
  · obtain ⟨p, r, sc, gc, B, e, d, S, gs, rfl, _⟩ := h
    rfl
  obtain ⟨p, r, sc, gc, B, e, d, S, gs, rfl, hd, hen, d0, hS, hSl, hB, q⟩ := h
  have hz20 := zB_ge e
  have hbig := big
  refine ⟨_, (pss_cons (ps_if (pt_cmpR op_eq (C8.pe_c c_law_next hr (by omega) rfl (pa_cons (pv 0) (pa_cons pe_int pa_nil))) pe_int (nomark _))
      (pss_one (ps_ret pe_non))
      pss_nil)
    (pss_cons (ps_set (i := 4) scLDef.nd rfl (Or.inl rfl) (C8.pe_c c_law_fresh hr (by omega) rfl (pa_cons (pv 0) pa_nil)))
    (pss_one (ps_ret (pe_tup (pa_cons (pv 4) (pa_cons (C8.pe_c c_law_body hr (by omega) rfl (pa_cons (pv 0) (pa_cons (pe_op op_sub (pv 1) pe_int) (pa_cons (pe_op op_cat (pv 2) (pe_lst (pa_cons (pv 4) pa_nil))) (pa_cons (pv 3) pa_nil))))) pa_nil))))))), ?_⟩
  refine ⟨_, rfl, p, r, 2, _, rfl, (by decide), d0, fun u H1 u0 u1 k1 d1 => ?_⟩
  have hS1 := hS.keep k1 d0
  refine ⟨rfl, _, rfl, ?_⟩
  show if decide (V.int u = V.int 0) = true then _ else _
  rcases Bool.eq_false_or_eq_true (decide (V.int u = V.int 0)) with c | c
  · rw [c]
    refine iteT ?_
    exact q _ .non _ k1 (d1.more (by omega)) rfl (.inl rfl)
  rw [c]
  refine iteF ?_
  refine ⟨_, rfl, p, r, _, rfl, d1, by omega, fun x H3 hx k3 d3 => ?_⟩
  have hS3 := hS1.keep k3 d1
  refine ⟨_, rfl, _, rfl, _, rfl, _, _, rfl, rfl, _, rfl, _, rfl, by show 1 ≤ sizeLine; decide, fun l4 hl4 => ?_⟩
  have s4 := same_new hl4 (.lst [.str x])
  refine ⟨sc, l4, _, _, rfl, rfl, s4 _ _ hS3.s, upd_same, by rw [List.length_map]; show S.length + 1 ≤ sizeLine; omega, fun l5 hl5 => ?_⟩
  have s5 := sameT s4 (same_new hl5 (.lst (S.map V.str ++ [.str x])))
  have e5 : upd (upd H3 l4 (.lst [.str x])) l5 (.lst (S.map V.str ++ [.str x])) l5 = some (.lst ((S ++ [x]).map V.str)) := by rw [upd_same, List.map_append]; rfl
  have d5 := d3.same s5
  have g5 := s5 _ _ hS3.g
  have k5 := (k1.trans k3).trans (Keep.same s5)
  generalize upd (upd H3 l4 (.lst [.str x])) l5 (.lst (S.map V.str ++ [.str x])) = H5 at e5 d5 k5 g5 ⊢
  refine ⟨_, rfl, p, r, l5, gc, _, e, _, S ++ [x], gs, rfl, by omega, hen, d5, ⟨e5, g5, fun s hs => ?_, hS.go, hS.g0, hS.gl⟩, by rw [List.length_append]; show S.length + 1 + _ ≤ _; omega, by omega, fun v6 g6 H6 k6 d6 a6 h6 hz6 => ⟨by show 2 ≤ sizeLine; decide, fun t7 ht7 => ?_⟩⟩
  · rcases List.mem_append.mp hs with e' | e'
    · exact hS.so s e'
    · rw [List.mem_singleton.mp e']
      exact hx
  have s7 := same_new ht7 (.tup [.str x, v6])
  exact q _ (.tup [.str x, g6]) _ ((k5.trans k6).trans (Keep.same s7)) ((d6.same s7).more (by omega)) (at_tup upd_same (ats_cons (at_str' hx.len) (ats_cons (a6.keep (fr_same s7)) ats_nil))) (.inr ⟨x, g6, rfl, hx, h6, hz6⟩)
end
end Toy

set_option Elab.async false
set_option linter.all false
set_option maxRecDepth 100000
set_option maxHeartbeats 4000000
/-! Part Y6: choices drawn. -/
namespace Toy
open PySem L2
open PyProof.Rows (envOfC)
theorem RowsOk.snocC {n z i : Nat} {w : Str} {rows : List Dd} {q : Dd} (h : RowsOk w n z i rows) (hw : w = "case") (hq : RwC n z q) : RowsOk w n z (i + 1) (rows ++ [q]) := by
  rcases h with ⟨_, h⟩ | ⟨e, _⟩
  · exact .inl ⟨hw, fun y hy => (List.mem_append.mp hy).elim (h y) fun e => by rw [List.mem_singleton.mp e]; exact hq⟩
  · rw [hw] at e
    exact absurd e (by decide +kernel)
theorem RowsOk.snocP {n z i : Nat} {w : Str} {rows : List Dd} {j : Int} {k : Dd} (h : RowsOk w n z i rows) (hw : w = "pick") (h0 : 3 * (i : Int) - 3 < j) (h1 : j ≤ 3 * (i : Int)) (hk : Dw n true k) (hz : k.sz ≤ z) : RowsOk w n z (i + 1) (rows ++ [.tup [.int j, k]]) := by
  rcases h with ⟨e, _⟩ | ⟨_, h, h2⟩
  · rw [hw] at e
    exact absurd e (by decide +kernel)
  · refine .inr ⟨hw, fun y hy => ?_, ?_⟩
    · rcases List.mem_append.mp hy with e | e
      · obtain ⟨j', k', e1, e2, e3, e4⟩ := h y e
        exact ⟨j', k', e1, e2, by omega, e4⟩
      · rw [List.mem_singleton.mp e]
        exact ⟨j, k, rfl, by omega, by omega, hk, hz⟩
    · rw [List.map_append, List.nodup_append]
      refine ⟨h2, List.pairwise_singleton _ _, fun a ha b hb e => ?_⟩
      obtain ⟨y, hy, rfl⟩ := List.mem_map.mp ha
      obtain ⟨j', k', rfl, _, e3, _⟩ := h y hy
      have hb : b ∈ [(Sum.inl j : Key)] := hb
      rw [List.mem_singleton.mp hb] at e
      have e : (Sum.inl j' : Key) = Sum.inl j := e
      have := Sum.inl.inj e
      omega
section
variable {P : Program} {w : World} {K : PySem.W.Frag} {mg : Str → Option Value} {base : Heap}
abbrev sLCh : Stmt := topS 56
theorem scLCh : FnScope ["w", "depth", "scope", "functions", "kind", "first", "rows", "k", "names"] ["w", "depth", "scope", "functions", "kind"] (defScope sLCh) := ⟨rfl, rfl, rfl, by decide +kernel, rfl, by decide +kernel, by decide +kernel⟩
def spLChoice (n : Nat) : Sp := fun vs H Q _ => ∃ (p r sc gc : Addr) (B e : Nat) (d : Int) (S gs : List Str) (kd : Str), vs = [.ref p, .int d, .ref sc, .ref gc, .str kd] ∧ (kd = "case" ∨ kd = "pick") ∧ d ≤ (e : Int) + 1 ∧ e < n ∧ DrawsAt H p r B ∧ ScG H sc gc S gs ∧ S.length + 3 * (e + 1) ≤ 900 ∧ B + (5 * zB e + 20) ≤ 399000 ∧
  ∀ (v : V) (k : Dd) (H' : Hp), Keep p H H' → DrawsAt H' p r (B + (5 * zB e + 20)) → k.At F0 H' v → Dw (2 * e + 2) true k → k.sz ≤ 5 * zB e + 50 → Q v H'
theorem c_lchoice {f : Addr} {fd : FuncData} {n : Nat} (T : TxtW mg) (c_law_next : C8.Cal P w K mg base 2 "_law_next" spNext []) (c_law_names : C8.Cal P w K mg base 4 "_law_names" spNames []) (c_law_body : C8.Cal P w K mg base (3 * n + 5) "_law_body" (spLBody n) []) (c_law_default : C8.Cal P w K mg base (3 * n + 6) "_law_default" (spLDefault n) []) (F : Fun K "_law_choice" "_law_choice" sLCh f fd) (b : Binds K fd ["w", "depth", "scope", "functions", "kind"] []) (hm : mg "_law_choice" = some (.ref f)) : C8.Cal P w K mg base (3 * n + 7) "_law_choice" (spLChoice n) [] := by
  refine cal_of F hm b scLCh (fun vs H Q E h => ?_) (fun cdv A outer s H vs Q E hr h => ?_)
  · obtain ⟨p, r, sc, gc, B, e, d, S, gs, kd, rfl, _⟩ := h
    rfl
  obtain ⟨p, r, sc, gc, B, e, d, S, gs, kd, rfl, hkd, hd, hen, d0, hS, hSl, hB, q⟩ := h
  have hz20 := zB_ge e
  have hbig := big
  refine ⟨_, (pss_cons (ps_set (i := 5) scLCh.nd rfl (Or.inl rfl) (C8.pe_c c_law_body hr (by omega) rfl (pa_cons (pv 0) (pa_cons (pe_op op_sub (pv 1) pe_int) (pa_cons (pv 2) (pa_cons (pv 3) pa_nil))))))
    (pss_cons (ps_set (i := 6) scLCh.nd rfl (Or.inl rfl) (pe_lst pa_nil))
    (pss_cons (ps_for PassesOwn.never rfl (pi_range1 rfl T.zrange (pa_cons (C8.pe_c c_law_next hr (by omega) rfl (pa_cons (pv 0) (pa_cons pe_int pa_nil))) pa_nil)) (pg_name (i := 7) scLCh.nd rfl (Or.inl rfl))
      (pss_one (ps_if (pt_cmpR op_eq (pv 4) pe_str (nomark _))
      (pss_cons (ps_set (i := 8) scLCh.nd rfl (Or.inl rfl) (C8.pe_c c_law_names hr (by omega) rfl (pa_cons (pv 0) (pa_cons (C8.pe_c c_law_next hr (by omega) rfl (pa_cons (pv 0) (pa_cons pe_int pa_nil))) pa_nil))))
    (pss_one (ps_expr (pe_bm PySem.F.plainAttrs_list PySem.F.slot_list_append PySem.F.type_list_append mt_append (pv 6) (pa_cons (pe_tup (pa_cons (C8.pe_c c_law_next hr (by omega) rfl (pa_cons (pv 0) (pa_cons pe_int pa_nil))) (pa_cons (pe_callTy call_tuple_of rfl T.ztuple boot_tuple (pa_cons (pv 8) pa_nil)) (pa_cons (C8.pe_c c_law_body hr (by omega) rfl (pa_cons (pv 0) (pa_cons (pe_op op_sub (pv 1) pe_int) (pa_cons (pe_op op_cat (pv 2) (pv 8)) (pa_cons (pv 3) pa_nil))))) pa_nil)))) pa_nil)))))
      (pss_one (ps_expr (pe_bm PySem.F.plainAttrs_list PySem.F.slot_list_append PySem.F.type_list_append mt_append (pv 6) (pa_cons (pe_tup (pa_cons (pe_op op_sub (pe_op op_mul (pv 7) pe_int) (C8.pe_c c_law_next hr (by omega) rfl (pa_cons (pv 0) (pa_cons pe_int pa_nil)))) (pa_cons (C8.pe_c c_law_body hr (by omega) rfl (pa_cons (pv 0) (pa_cons (pe_op op_sub (pv 1) pe_int) (pa_cons (pv 2) (pa_cons (pv 3) pa_nil))))) pa_nil))) pa_nil)))))))
    (pss_one (ps_ret (pe_tup (pa_cons (pv 4) (pa_cons (pv 5) (pa_cons (pe_callTy call_tuple_of rfl T.ztuple boot_tuple (pa_cons (pv 6) pa_nil)) (pa_cons (C8.pe_c c_law_default hr (by omega) rfl (pa_cons (pv 0) (pa_cons (pv 1) (pa_cons (pv 2) (pa_cons (pv 3) pa_nil))))) pa_nil)))))))))), ?_⟩
  generalize hX : zB e = X at *
  refine ⟨_, rfl, _, rfl, _, _, rfl, rfl, _, rfl, _, rfl, p, r, sc, gc, _, e, _, S, gs, rfl, by omega, hen, d0, hS, by omega, by omega, fun v1 f1 H1 k1 d1 a1 h1 hz1 => ?_⟩
  rw [hX] at d1 hz1
  have hS1 := hS.keep k1 d0
  refine ⟨by show 0 ≤ sizeLine; decide, fun L hL => ?_⟩
  obtain ⟨nLp, nLr⟩ := d1.fresh hL
  have s2 := same_new hL (.lst [])
  have e2 : upd H1 L (.lst []) L = some (.lst []) := upd_same
  have d2 := d1.same s2
  have hS2 := hS1.same s2
  have k2 : Keep p H1 (upd H1 L (.lst [])) := Keep.same s2
  replace a1 := a1.keep (fr_same (B := F0) s2)
  have nscL : sc ≠ L := fun z => by have := hS1.s; rw [z, hL] at this; cases this
  have ngcL : gc ≠ L := fun z => by have := hS1.g; rw [z, hL] at this; cases this
  generalize upd H1 L (.lst []) = H2 at e2 d2 k2 a1 hS2 ⊢
  clear s2
  refine ⟨_, rfl, p, r, 4, _, rfl, (by decide), d2, fun mm H3 mm0 mm1 k3 d3 => ?_⟩
  have hS3 := hS2.keep k3 d2
  have eL3 := k3 _ _ nLp e2
  replace a1 := a1.keep (fr_keep (B := F0) k3 d2)
  replace k3 := k2.trans k3
  refine ⟨mm, rfl, by omega, by omega, for_range
    (fun (i : Nat) σ G => ∃ (v7 v8 : Option V) (xs : List V) (rows : List Dd), σ = [some (.ref p), some (.int d), some (.ref sc), some (.ref gc), some (.str kd), some v1, some (.ref L), v7, v8] ∧ Keep p H1 G ∧ ScG G sc gc S gs ∧ f1.At F0 G v1 ∧ DrawsAt G p r (B + X + i * (X + 2)) ∧ G L = some (.lst xs) ∧ Dd.Ats F0 G rows xs ∧ rows.length = i ∧ RowsOk kd (2 * e + 1) X i rows)
    ⟨_, _, [], [], rfl, k3, hS3, a1, d3.more (by omega), eL3, rfl, rfl, ?_⟩ ?_ ?_⟩
  · rcases hkd with rfl | rfl
    · exact .inl ⟨rfl, fun q h => absurd h List.not_mem_nil⟩
    · exact .inr ⟨rfl, fun q h => absurd h List.not_mem_nil, List.nodup_nil⟩
  · rintro i σ G hi ⟨v7, v8, xs, rows, rfl, kG, hSG, a1G, dG, hG, aG, hrl, hro⟩
    have hi2 : i ≤ 2 := by omega
    have hic : i * (X + 2) ≤ 2 * (X + 2) := Nat.mul_le_mul_right _ hi2
    have hic1 : (i + 1) * (X + 2) = i * (X + 2) + (X + 2) := Nat.succ_mul _ _
    have hxl := ats_len aG
    rw [hrl] at hxl
    have put : ∀ (y : Dd) (G' : Hp) (t : Addr) (v7 v8 : Option V), Keep p G G' → DrawsAt G' p r (B + X + (i + 1) * (X + 2)) → y.At F0 G' (.ref t) → RowsOk kd (2 * e + 1) X (i + 1) (rows ++ [y]) →
        G' L = some (.lst xs) ∧ ∃ (v7' v8' : Option V) (xs' : List V) (rows' : List Dd), [some (.ref p), some (.int d), some (.ref sc), some (.ref gc), some (.str kd), some v1, some (.ref L), v7, v8] = [some (.ref p), some (.int d), some (.ref sc), some (.ref gc), some (.str kd), some v1, some (.ref L), v7', v8'] ∧ Keep p H1 (upd G' L (.lst (xs ++ [.ref t]))) ∧ ScG (upd G' L (.lst (xs ++ [.ref t]))) sc gc S gs ∧ f1.At F0 (upd G' L (.lst (xs ++ [.ref t]))) v1 ∧ DrawsAt (upd G' L (.lst (xs ++ [.ref t]))) p r (B + X + (i + 1) * (X + 2)) ∧ upd G' L (.lst (xs ++ [.ref t])) L = some (.lst xs') ∧ Dd.Ats F0 (upd G' L (.lst (xs ++ [.ref t]))) rows' xs' ∧ rows'.length = i + 1 ∧ RowsOk kd (2 * e + 1) X (i + 1) rows' := fun y G' t v7 v8 kk dk ay hg => by
      have hL' := kk _ _ nLp hG
      have fK := fr_keep (B := F0) kk dG
      have fL : Fr F0 G' (upd G' L (.lst (xs ++ [.ref t]))) := fr_list hL' fun z => z
      have hSK := hSG.keep kk dG
      exact ⟨hL', v7, v8, xs ++ [.ref t], rows ++ [y], rfl, keep_upd hL (kG.trans kk) _, ⟨by rw [upd_ne nscL]; exact hSK.s, by rw [upd_ne ngcL]; exact hSK.g, hSK.so, hSK.go, hSK.g0, hSK.gl⟩, (a1G.keep fK).keep fL, dk.off nLp nLr _, upd_same, ats_app ((aG.keep fK).keep fL) (ats_one (ay.keep fL)), by rw [List.length_append, hrl]; rfl, hg⟩
    refine ⟨_, rfl, rfl, _, rfl, ?_⟩
    show if decide (V.str kd = V.str "case") = true then _ else _
    by_cases c : kd = "case"
    · rw [show decide (V.str kd = V.str "case") = true by rw [c]; exact decide_eq_true rfl]
      refine iteT ?_
      refine ⟨_, rfl, _, rfl, p, r, 3, _, rfl, (by decide), dG, fun m G2 m0 m1 k2 d2 => ?_⟩
      refine ⟨p, r, _, m.toNat, by rw [Int.toNat_of_nonneg m0]; rfl, by omega, d2, by omega, fun N zs G3 k3 d3 hN0 hN h4 h5 h6 _ => ?_⟩
      replace k3 := k2.trans k3
      have hG3 := k3 _ _ nLp hG
      refine ⟨_, rfl, .inl ⟨rfl, _, SqL.of hG3⟩, ?_⟩
      refine ⟨_, rfl, p, r, 4, _, rfl, (by decide), d3, fun j G4 j0 j1 k4 d4 => ?_⟩
      have hN4 := k4 _ _ (d3.ne_list hN) hN
      replace k4 := k3.trans k4
      refine ⟨_, rfl, N, _, rfl, .inl ⟨SqL.of hN4, fun t8 ht8 => ?_⟩⟩
      have s8 := same_new ht8 (.tup (zs.map V.str))
      have e8 : upd G4 t8 (.tup (zs.map V.str)) t8 = some (.tup (zs.map V.str)) := upd_same
      have hN8 := s8 _ _ hN4
      have d8 := d4.same s8
      have kG8 := k4.trans (Keep.same s8)
      generalize upd G4 t8 (.tup (zs.map V.str)) = G8 at e8 hN8 d8 kG8 ⊢
      clear s8
      have hS8 := hSG.keep kG8 dG
      refine ⟨_, rfl, _, rfl, _, _, rfl, rfl, _, rfl, _, rfl, sc, N, _, _, rfl, rfl, hS8.s, hN8, by rw [List.length_map, List.length_map]; omega, fun l9 hl9 => ?_⟩
      have s9 := same_new hl9 (.lst (S.map V.str ++ zs.map V.str))
      have e9 : upd G8 l9 (.lst (S.map V.str ++ zs.map V.str)) l9 = some (.lst ((S ++ zs).map V.str)) := by rw [upd_same, List.map_append]
      have d9 := d8.same s9
      have e89 := s9 _ _ e8
      have g9 := s9 _ _ hS8.g
      have kG9 := kG8.trans (Keep.same s9)
      generalize upd G8 l9 (.lst (S.map V.str ++ zs.map V.str)) = G9 at e9 d9 e89 kG9 g9 ⊢
      clear s9
      refine ⟨_, rfl, p, r, l9, gc, _, e, _, S ++ zs, gs, rfl, by omega, hen, d9, ⟨e9, g9, fun s hs => (List.mem_append.mp hs).elim (hS.so s) (h4 s), hS.go, hS.g0, hS.gl⟩, by rw [List.length_append]; omega, by omega, fun v6 g6 G10 k10 d10 a10 h10 hz10 => ⟨by show 3 ≤ sizeLine; decide, fun t11 ht11 => ?_⟩⟩
      rw [hX] at d10 hz10
      have s11 := same_new ht11 (.tup [.int j, .ref t8, v6])
      have e811 := s11 _ _ (k10 _ _ (d9.ne_tup e89) e89)
      have e11 : (Dd.tup [.int j, nameT zs, g6]).At F0 (upd G10 t11 (.tup [.int j, .ref t8, v6])) (.ref t11) := at_tup upd_same (ats_cons at_int' (ats_cons (at_tup e811 (ats_strsL h4)) (ats_cons (a10.keep (fr_same s11)) ats_nil)))
      obtain ⟨hL', fin⟩ := put _ _ t11 (some (.int (0 + (i : Int)))) (some (.ref N)) ((kG9.trans k10).trans (Keep.same s11)) ((d10.same s11).more (by omega)) e11 (hro.snocC c ⟨j, zs, g6, rfl, j0, by omega, h4, h5, by omega, h10, hz10⟩)
      exact ⟨L, _, _, rfl, rfl, hL', szl (by omega), fin⟩
    · rw [show decide (V.str kd = V.str "case") = false from decide_eq_false fun z => c (by injection z)]
      refine iteF ?_
      have cc : kd = "pick" := hkd.resolve_left c
      refine ⟨_, rfl, .inl ⟨rfl, _, SqL.of hG⟩, ?_⟩
      refine ⟨_, rfl, _, _, rfl, rfl, .inr (by decide), _, rfl, p, r, 3, _, rfl, (by decide), dG, fun m G2 m0 m1 k2 d2 => ?_⟩
      have hS2 := hSG.keep k2 dG
      refine ⟨_, _, rfl, rfl, _, rfl, _, rfl, _, _, rfl, rfl, _, rfl, _, rfl, p, r, sc, gc, _, e, _, S, gs, rfl, by omega, hen, d2, hS2, by omega, by omega, fun v6 g6 G6 k6 d6 a6 h6 hz6 => ⟨by show 2 ≤ sizeLine; decide, fun t7 ht7 => ?_⟩⟩
      rw [hX] at d6 hz6
      have s7 := same_new ht7 (.tup [.int ((0 + (i : Int)) * 3 - m), v6])
      have e7 : (Dd.tup [.int ((0 + (i : Int)) * 3 - m), g6]).At F0 (upd G6 t7 (.tup [.int ((0 + (i : Int)) * 3 - m), v6])) (.ref t7) := at_tup upd_same (ats_cons at_int' (ats_cons (a6.keep (fr_same s7)) ats_nil))
      obtain ⟨hL', fin⟩ := put _ _ t7 (some (.int (0 + (i : Int)))) v8 ((k2.trans k6).trans (Keep.same s7)) ((d6.same s7).more (by omega)) e7 (hro.snocP cc (by omega) (by omega) h6 hz6)
      exact ⟨L, _, _, rfl, rfl, hL', szl (by omega), fin⟩
  rintro σ G ⟨v7, v8, xs, rows, rfl, kG, hSG, a1G, dG, hG, aG, hrl, hro⟩
  have hm3 : mm.toNat ≤ 3 := by omega
  generalize mm.toNat = M at hm3 dG hro hrl
  have hic : M * (X + 2) ≤ 3 * (X + 2) := Nat.mul_le_mul_right _ hm3
  have hsz := rows_sz hro
  rw [hrl] at hsz
  have hsz2 : M * (X + 5) ≤ 3 * (X + 5) := Nat.mul_le_mul_right _ hm3
  refine ⟨_, rfl, _, rfl, _, rfl, L, xs, rfl, .inl ⟨SqL.of hG, fun t7 ht7 => ?_⟩⟩
  have s7 := same_new ht7 (.tup xs)
  have e7 : upd G t7 (.tup xs) t7 = some (.tup xs) := upd_same
  have d7 := dG.same s7
  have hS7 := hSG.same s7
  replace a1G := a1G.keep (fr_same (B := F0) s7)
  replace aG := aG.keep (fr_same (B := F0) s7)
  replace kG := kG.trans (Keep.same s7)
  generalize upd G t7 (.tup xs) = G7 at e7 d7 hS7 a1G aG kG ⊢
  refine ⟨_, rfl, _, rfl, _, rfl, _, rfl, p, r, sc, gc, _, e, _, S, gs, rfl, hd, hen, d7, hS7, by omega, by omega, fun v8 g8 H8 k8 d8 a8 h8 => ⟨by show 4 ≤ sizeLine; decide, fun t9 ht9 => ?_⟩⟩
  rw [hX] at d8 h8
  have s9 := same_new ht9 (.tup [.str kd, v1, .ref t7, v8])
  have fK := fr_keep (B := F0) k8 d7
  have hz8 := df_sz h8
  refine q _ (.tup [.str kd, f1, .tup rows, g8]) _ (((k1.trans kG).trans k8).trans (Keep.same s9)) ((d8.same s9).more (by omega)) (at_tup upd_same (ats_cons (at_str' (by rcases hkd with z | z <;> rw [z] <;> decide +kernel)) (ats_cons ((a1G.keep fK).keep (fr_same s9)) (ats_cons (at_tup (s9 _ _ (k8 _ _ (d7.ne_tup e7) e7)) ((aG.keep fK).keep (fr_same s9))) (ats_cons (a8.keep (fr_same s9)) ats_nil))))) (dw_choice h1 hro (by omega) h8) ?_
  show 1 + (1 + (f1.sz + ((1 + Dd.szs rows) + (g8.sz + 0)))) ≤ _
  omega
end
end Toy

set_option Elab.async false
set_option linter.all false
set_option maxRecDepth 100000
set_option maxHeartbeats 8000000
/-! Part Z6: bodies drawn. -/
namespace Toy
open PySem L2
open PyProof.Rows (envOfC)
theorem signsA_ok : ∀ z ∈ signs, z.length ≤ 1000 := by decide +kernel
theorem signsA_so : ∀ z ∈ signs, PyData.strOk z = true := by decide +kernel
theorem szs_leL {z : Nat} : ∀ {l : List (Str × Dd)}, (∀ q ∈ l, q.2.sz ≤ z) → Dd.szs (l.map rowL) ≤ l.length * (z + 2)
  | [], _ => Nat.zero_le _
  | q :: l, h => by
    have h1 := h q (List.mem_cons_self ..)
    have h2 := szs_leL fun y hy => h y (List.mem_cons_of_mem _ hy)
    show (1 + (1 + (q.2.sz + 0))) + Dd.szs (l.map rowL) ≤ (l.length + 1) * (z + 2)
    rw [Nat.succ_mul]
    omega
section
variable {P : Program} {w : World} {K : PySem.W.Frag} {mg : Str → Option Value} {base : Heap}
abbrev sLBody : Stmt := topS 57
theorem scLBody : FnScope ["w", "depth", "scope", "functions", "turn", "called", "sign", "name", "first", "names", "members"] ["w", "depth", "scope", "functions"] (defScope sLBody) := ⟨rfl, rfl, rfl, by decide +kernel, rfl, by decide +kernel, by decide +kernel⟩
theorem c_lbody1 {f : Addr} {fd : FuncData} {n : Nat} (T : TxtW mg) (c_law_next : C8.Cal P w K mg base 2 "_law_next" spNext []) (c_law_fresh : C8.Cal P w K mg base 3 "_law_fresh" spFresh []) (c_law_names : C8.Cal P w K mg base 4 "_law_names" spNames []) (c_law_atom : C8.Cal P w K mg base 3 "_law_atom" spLAtom []) (c_law_atoms : C8.Cal P w K mg base 4 "_law_atoms" spLAtoms []) (c_law_body : C8.Cal P w K mg base (3 * n + 5) "_law_body" (spLBody n) []) (c_law_member : C8.Cal P w K mg base (3 * n + 6) "_law_member" (spLMember n) []) (c_law_choice : C8.Cal P w K mg base (3 * n + 7) "_law_choice" (spLChoice n) []) (F : Fun K "_law_body" "_law_body" sLBody f fd) (b : Binds K fd ["w", "depth", "scope", "functions"] []) (hm : mg "_law_body" = some (.ref f)) : C8.Cal P w K mg base (3 * (n + 1) + 5) "_law_body" (spLBody (n + 1)) [] := by
  refine cal_of F hm b scLBody (fun vs H Q E h => ?_) (fun cdv A outer s H vs Q E hr h => ?_)
  · obtain ⟨p, r, sc, gc, B, e, d, S, gs, rfl, _⟩ := h
    rfl
  obtain ⟨p, r, sc, gc, B, e, d, S, gs, rfl, hd, hen, d0, hS, hSl, hB, q⟩ := h
  have hz20 := zB_ge e
  have hbig := big
  have hu64 := hr.units
  refine ⟨_, (pss_cons (ps_set (i := 4) scLBody.nd rfl (Or.inl rfl) (C8.pe_c c_law_next hr (by omega) rfl (pa_cons (pv 0) (pa_cons pe_int pa_nil))))
    (pss_cons (ps_if (PW.pt (pw_or (pt_cmpR op_le (pv 1) pe_int (nomark _)) (pw_or1 (pt_cmpR op_eq (pv 4) pe_int (nomark _)))))
      (pss_one (ps_ret (pe_tup (pa_cons pe_str (pa_cons (C8.pe_c c_law_atom hr (by omega) rfl (pa_cons (pv 0) (pa_cons (pv 2) (pa_cons (pv 3) pa_nil)))) pa_nil)))))
      pss_nil)
    (pss_cons (ps_if (pt_cmpR op_lt (pv 4) pe_int (nomark _))
      (pss_cons (ps_set (i := 5) scLBody.nd rfl (Or.inl rfl) (pe_ix ix_list (pv 3) (C8.pe_c c_law_next hr (by omega) rfl (pa_cons (pv 0) (pa_cons (pe_callB call_len_seq rfl T.zlen PySem.boot_len (pa_cons (pv 3) pa_nil)) pa_nil))) (fun _ _ => rfl)))
    (C8.pss_cut (ps_if (PW.pt (pw_and (pt_cmpR (op_neD hu64) (pv 2) (pe_lst pa_nil) (nomark _)) (pw_and1 (pt_cmpR op_eq (pv 4) pe_int (nomark _)))))
      (pss_one (ps_set (i := 5) scLBody.nd rfl (Or.inl rfl) (pe_ix ix_list (pv 2) (C8.pe_c c_law_next hr (by omega) rfl (pa_cons (pv 0) (pa_cons (pe_callB call_len_seq rfl T.zlen PySem.boot_len (pa_cons (pv 2) pa_nil)) pa_nil))) (fun _ _ => rfl))))
      pss_nil)
    (pss_one (ps_ret (pe_tup (pa_cons pe_str (pa_cons (pv 5) (pa_cons (C8.pe_c c_law_atoms hr (by omega) rfl (pa_cons (pv 0) (pa_cons (pv 2) (pa_cons (pv 3) (pa_cons (pe_op op_add pe_int (C8.pe_c c_law_next hr (by omega) rfl (pa_cons (pv 0) (pa_cons pe_int pa_nil)))) pa_nil))))) pa_nil))))))))
      pss_nil)
    (pss_cons (ps_if (pt_cmpR op_eq (pv 4) pe_int (nomark _))
      (pss_one (ps_ret (pe_tup (pa_cons pe_str (pa_cons (C8.pe_c c_law_next hr (by omega) rfl (pa_cons (pv 0) (pa_cons pe_int pa_nil))) (pa_cons (C8.pe_c c_law_atoms hr (by omega) rfl (pa_cons (pv 0) (pa_cons (pv 2) (pa_cons (pv 3) (pa_cons (C8.pe_c c_law_next hr (by omega) rfl (pa_cons (pv 0) (pa_cons pe_int pa_nil))) pa_nil))))) pa_nil))))))
      pss_nil)
    (pss_cons (ps_if (pt_cmpR op_eq (pv 4) pe_int (nomark _))
      (pss_cons (ps_set (i := 6) scLBody.nd rfl (Or.inl rfl) (pe_ix ix_list (pe_lst (pa_strs (zs := ["+", "-", "*", "div", "mod", "==", "<", "<="]) rfl)) (C8.pe_c c_law_next hr (by omega) rfl (pa_cons (pv 0) (pa_cons pe_int pa_nil))) (fun _ _ => rfl)))
    (pss_one (ps_ret (pe_op op_catA (pe_tup (pa_cons pe_str (pa_cons (pv 6) pa_nil))) (C8.pe_c c_law_atoms hr (by omega) rfl (pa_cons (pv 0) (pa_cons (pv 2) (pa_cons (pv 3) (pa_cons pe_int pa_nil)))))))))
      pss_nil)
    (pss_cons (ps_if (pt_cmpR op_eq (pv 4) pe_int (nomark _))
      (pss_cons (ps_set (i := 7) scLBody.nd rfl (Or.inl rfl) (C8.pe_c c_law_fresh hr (by omega) rfl (pa_cons (pv 0) pa_nil)))
    (pss_cons (ps_set (i := 8) scLBody.nd rfl (Or.inl rfl) (C8.pe_c c_law_body hr (by omega) rfl (pa_cons (pv 0) (pa_cons (pe_op op_sub (pv 1) pe_int) (pa_cons (pv 2) (pa_cons (pv 3) pa_nil))))))
    (pss_one (ps_ret (pe_tup (pa_cons pe_str (pa_cons (pv 7) (pa_cons (pv 8) (pa_cons (C8.pe_c c_law_body hr (by omega) rfl (pa_cons (pv 0) (pa_cons (pe_op op_sub (pv 1) pe_int) (pa_cons (pe_op op_cat (pv 2) (pe_lst (pa_cons (pv 7) pa_nil))) (pa_cons (pv 3) pa_nil))))) pa_nil)))))))))
      pss_nil)
    (pss_cons (ps_if (pt_cmpR op_eq (pv 4) pe_int (nomark _))
      (pss_one (ps_ret (pe_tup (pa_cons pe_str (pa_cons (C8.pe_c c_law_next hr (by omega) rfl (pa_cons (pv 0) (pa_cons pe_int pa_nil))) (pa_cons (C8.pe_c c_law_body hr (by omega) rfl (pa_cons (pv 0) (pa_cons (pe_op op_sub (pv 1) pe_int) (pa_cons (pv 2) (pa_cons (pv 3) pa_nil))))) pa_nil))))))
      pss_nil)
    (pss_cons (ps_if (pt_cmpR op_eq (pv 4) pe_int (nomark _))
      (pss_cons (ps_set (i := 9) scLBody.nd rfl (Or.inr rfl) (C8.pe_c c_law_names hr (by omega) rfl (pa_cons (pv 0) (pa_cons (pe_op op_add pe_int (C8.pe_c c_law_next hr (by omega) rfl (pa_cons (pv 0) (pa_cons pe_int pa_nil)))) pa_nil))))
    (pss_cons (ps_set (i := 10) scLBody.nd rfl (Or.inl rfl) (pe_callTy call_tuple_of rfl T.ztuple boot_tuple (pa_cons (pe_lc (own := [("name", 7)]) (g := gName 7) (tt := tYes) rfl scLBody.nd (pi_list (pv 9)) (blkOk_by (own := [("name", 7)]) (N := ["w", "depth", "scope", "functions", "turn", "called", "sign", "name", "first", "names", "members"]) (sc := defScope sLBody) (by decide +kernel)) (fun _ _ _ _ _ => (pg_name (i := 7) scLBody.nd rfl (Or.inl rfl))) (fun _ _ _ _ _ => pts_nil) (fun _ _ _ _ _ => (pe_tup (pa_cons (pv 7) (pa_cons (C8.pe_c c_law_member hr (by omega) rfl (pa_cons (pv 0) (pa_cons (pv 1) (pa_cons (pe_op op_cat (pv 2) (pv 9)) (pa_cons (pv 3) pa_nil))))) pa_nil))))) pa_nil)))
    (pss_one (ps_ret (pe_tup (pa_cons pe_str (pa_cons (pv 10) (pa_cons (C8.pe_c c_law_body hr (by omega) rfl (pa_cons (pv 0) (pa_cons (pe_op op_sub (pv 1) pe_int) (pa_cons (pe_op op_cat (pv 2) (pv 9)) (pa_cons (pv 3) pa_nil))))) pa_nil))))))))
      pss_nil)
    (pss_one (ps_ret (C8.pe_c c_law_choice hr (by omega) rfl (pa_cons (pv 0) (pa_cons (pv 1) (pa_cons (pv 2) (pa_cons (pv 3) (pa_cons (pe_ix ix_list (pe_lst (pa_cons pe_str (pa_cons pe_str pa_nil))) (pe_op op_sub (pv 4) pe_int) (fun _ _ => rfl)) pa_nil)))))))))))))))), ?_⟩
  refine ⟨_, rfl, p, r, 10, _, rfl, (by decide), d0, fun u H1 u0 u1 k1 d1 => ?_⟩
  have hS1 := hS.keep k1 d0
  have fin : ∀ v k G, Keep p H1 G → DrawsAt G p r B → (∀ G, k.At F0 G v) → atmB k = true → ∀ t, G t = none → Q (.ref t) (upd G t (.tup [.str "atom", v])) := fun v k G kG dG ak hk t ht => by
    have s5 := same_new ht (.tup [.str "atom", v])
    refine q _ (.tup [.str "atom", k]) _ ((k1.trans kG).trans (Keep.same s5)) ((dG.same s5).more (by omega)) (at_tup upd_same (ats_cons (at_str' (by decide +kernel)) (ats_cons (ak _) ats_nil))) (dw_atom hk) ?_
    have := atm_sz hk
    show 1 + (1 + (k.sz + 0)) ≤ _
    omega
  refine ⟨_, rfl, _, _, rfl, rfl, _, rfl, ?_⟩
  show if decide (d ≤ 0) = true then _ else _
  rcases Bool.eq_false_or_eq_true (decide (d ≤ 0)) with c1 | c1
  · rw [c1]
    refine iteT (iteT ?_)
    exact ⟨_, rfl, _, rfl, _, rfl, p, r, sc, gc, _, S, gs, rfl, d1, hS1, by omega, fun v k G kG dG ak hk => ⟨by show 2 ≤ sizeLine; decide, fun t ht => fin v k G kG dG ak hk t ht⟩⟩
  rw [c1]
  refine iteF ?_
  refine ⟨_, rfl, rfl, _, rfl, ?_⟩
  show if decide (V.int u = V.int 0) = true then _ else _
  rcases Bool.eq_false_or_eq_true (decide (V.int u = V.int 0)) with c3 | c3
  · rw [c3]
    refine iteT ?_
    exact ⟨_, rfl, _, rfl, _, rfl, p, r, sc, gc, _, S, gs, rfl, d1, hS1, by omega, fun v k G kG dG ak hk => ⟨by show 2 ≤ sizeLine; decide, fun t ht => fin v k G kG dG ak hk t ht⟩⟩
  rw [c3]
  refine iteF ?_
  clear fin
  have he1 := of_decide_eq_false c1
  obtain ⟨e, rfl⟩ : ∃ j, e = j + 1 := ⟨e - 1, by omega⟩
  have hX20 := zB_ge e
  have hXX := zB_s e
  rw [hXX] at hB q hz20
  generalize hX : zB e = X at *
  have hen' : e < n := by omega
  have hd' : d ≤ (e : Int) + 1 := by omega
  clear c1 c3 he1 hXX
  refine ⟨_, rfl, _, _, rfl, rfl, _, rfl, ?_⟩
  show if decide (u < 3) = true then _ else _
  rcases Bool.eq_false_or_eq_true (decide (u < 3)) with c1 | c1
  · rw [c1]
    refine iteT ?_
    have hg0 := hS.g0
    refine ⟨_, rfl, _, rfl, _, rfl, gc, _, rfl, .inl (SqL.of hS1.g), p, r, _, _, rfl, by rw [List.length_map]; omega, d1, fun i H2 i0 i1 k2 d2 => ?_⟩
    rw [List.length_map] at i1
    have hS2 := hS1.keep k2 d1
    obtain ⟨z, hz, ez⟩ := at_str (zs := gs) i0 i1
    refine ⟨gc, _, _, _, rfl, rfl, SqL.of hS2.g, ez, ?_⟩
    replace k2 := k1.trans k2
    refine ⟨fun σ G => ∃ z : Str, σ = [some (.ref p), some (.int d), some (.ref sc), some (.ref gc), some (.int u), some (.str z), none, none, none, none, none] ∧ isName (.str z) = true ∧ Keep p H G ∧ DrawsAt G p r B ∧ ScG G sc gc S gs, ?_, ?_⟩
    · refine ⟨_, rfl, by show 0 ≤ sizeLine; decide, fun l0 hl0 => ?_⟩
      have s3 := same_new hl0 (.lst [])
      have e3 : upd H2 l0 (.lst []) l0 = some (.lst (([] : List Str).map V.str)) := upd_same
      have hS3 := hS2.same s3
      have d3 := d2.same s3
      replace k2 := k2.trans (Keep.same (p := p) s3)
      generalize upd H2 l0 (.lst []) = H3 at s3 e3 hS3 d3 k2 ⊢
      refine ⟨_, _, .lst (SqL.of hS3.s) (strs_dp S), .lst (SqL.of e3) (strs_dp []), strs_shaped (fun y h => (hS.so y h).1), strs_shaped (fun y h => absurd h List.not_mem_nil), _, rfl, ?_⟩
      show if (!PyData.eqv (.list (S.map PyData.str)) (.list [])) = true then _ else _
      rw [strs_nil]
      by_cases c2 : S = []
      · rw [decide_eq_true c2]
        refine iteF ?_
        refine iteF ?_
        exact ⟨z, rfl, hS.go z hz, k2, d3, hS3⟩
      rw [decide_eq_false c2]
      refine iteT ?_
      refine ⟨_, rfl, rfl, _, rfl, ?_⟩
      show if decide (V.int u = V.int 1) = true then _ else _
      refine ite2 (fun _ => ?_) (fun _ => ?_)
      · have hpos : 0 < S.length := List.length_pos_iff.mpr c2
        refine ⟨_, rfl, _, rfl, _, rfl, sc, _, rfl, .inl (SqL.of hS3.s), p, r, _, _, rfl, by rw [List.length_map]; omega, d3, fun i H4 i0 i1 k4 d4 => ?_⟩
        rw [List.length_map] at i1
        have hS4 := hS3.keep k4 d3
        obtain ⟨y, hy, ey⟩ := at_str (zs := S) i0 i1
        exact ⟨sc, _, _, _, rfl, rfl, SqL.of hS4.s, ey, y, rfl, (hS.so y hy).1, k2.trans k4, d4, hS4⟩
      · exact ⟨z, rfl, hS.go z hz, k2, d3, hS3⟩
    rintro σ G ⟨z, rfl, hzl, kG, dG, hSG⟩
    refine ⟨_, rfl, _, rfl, _, rfl, _, rfl, _, rfl, p, r, 3, _, rfl, (by decide), dG, fun m H3 m0 m1 k3 d3 => ?_⟩
    refine ⟨_, _, rfl, rfl, p, r, sc, gc, _, (1 + m).toNat, S, gs, by rw [Int.toNat_of_nonneg (by omega)]; rfl, by omega, d3, hSG.keep k3 dG, by omega, fun t l xs H4 k4 d4 et al hl hin => ⟨by show 3 ≤ sizeLine; decide, fun t5 ht5 => ?_⟩⟩
    have s5 := same_new ht5 (.tup [.str "call", .str z, .ref t])
    have hcz := tup_szA hin hl
    exact q _ (.tup [.str "call", .str z, .tup l]) _ (((kG.trans k3).trans k4).trans (Keep.same s5)) ((d4.same s5).more (by omega)) (at_tup upd_same (ats_cons (at_str' (by decide +kernel)) (ats_cons (at_str' (str_le (d := .str z) hzl)) (ats_cons (at_tup (s5 _ _ et) (al _)) ats_nil)))) (dw_call (atmB_str hzl) hin) (by show 1 + (1 + (1 + ((Dd.tup l).sz + 0))) ≤ _; omega)
  rw [c1]
  refine iteF ?_
  have hu3 := of_decide_eq_false c1
  refine ⟨_, rfl, rfl, _, rfl, ?_⟩
  show if decide (V.int u = V.int 3) = true then _ else _
  rcases Bool.eq_false_or_eq_true (decide (V.int u = V.int 3)) with c3 | c3
  · rw [c3]
    refine iteT ?_
    refine ⟨_, rfl, p, r, 4, _, rfl, (by decide), d1, fun i H2 i0 i1 k2 d2 => ?_⟩
    have hS2 := hS1.keep k2 d1
    refine ⟨_, rfl, _, rfl, _, rfl, _, rfl, p, r, 4, _, rfl, (by decide), d2, fun m H3 m0 m1 k3 d3 => ?_⟩
    refine ⟨p, r, sc, gc, _, m.toNat, S, gs, by rw [Int.toNat_of_nonneg m0]; rfl, by omega, d3, hS2.keep k3 d2, by omega, fun t l xs H4 k4 d4 et al hl hin => ⟨by show 3 ≤ sizeLine; decide, fun t5 ht5 => ?_⟩⟩
    have s5 := same_new ht5 (.tup [.str "con", .int i, .ref t])
    have hcz := tup_szA hin hl
    exact q _ (.tup [.str "con", .int i, .tup l]) _ ((((k1.trans k2).trans k3).trans k4).trans (Keep.same s5)) ((d4.same s5).more (by omega)) (at_tup upd_same (ats_cons (at_str' (by decide +kernel)) (ats_cons at_int' (ats_cons (at_tup (s5 _ _ et) (al _)) ats_nil)))) (dw_con hin) (by show 1 + (1 + (1 + ((Dd.tup l).sz + 0))) ≤ _; omega)
  rw [c3]
  refine iteF ?_
  refine ⟨_, rfl, rfl, _, rfl, ?_⟩
  show if decide (V.int u = V.int 4) = true then _ else _
  rcases Bool.eq_false_or_eq_true (decide (V.int u = V.int 4)) with c4 | c4
  · rw [c4]
    refine iteT ?_
    refine ⟨by show 8 ≤ sizeLine; decide, fun lz hlz => ?_⟩
    have s3 := same_new hlz (.lst (signs.map V.str))
    have e3 : upd H1 lz (.lst (signs.map V.str)) lz = some (.lst (signs.map V.str)) := upd_same
    have d3 := d1.same s3
    have hS3 := hS1.same s3
    have k3 := k1.trans (Keep.same s3)
    refine ⟨_, rfl, p, r, 8, _, rfl, (by decide), d3, fun i H4 i0 i1 k4 d4 => ?_⟩
    obtain ⟨z, hz, ez⟩ := at_str (zs := signs) i0 (by show i < 8; exact i1)
    refine ⟨lz, _, _, _, rfl, rfl, SqL.of (k4 _ _ (d3.ne_list e3) e3), ez, ?_⟩
    have hS4 := hS3.keep k4 d3
    replace k4 := k3.trans k4
    refine ⟨_, rfl, by show 2 ≤ sizeLine; decide, fun t5 ht5 => ?_⟩
    have s5 := same_new ht5 (.tup [.str "prim", .str z])
    have e5 : upd H4 t5 (.tup [.str "prim", .str z]) t5 = some (.tup [.str "prim", .str z]) := upd_same
    have d5 := d4.same s5
    have hS5 := hS4.same s5
    replace k4 := k4.trans (Keep.same s5)
    generalize upd H4 t5 (.tup [.str "prim", .str z]) = H5 at e5 d5 hS5 k4 ⊢
    refine ⟨_, rfl, _, rfl, _, rfl, p, r, sc, gc, _, 2, S, gs, rfl, by decide, d5, hS5, by omega, fun t l xs H6 k6 d6 et al hl hin => ?_⟩
    obtain ⟨x, y, rfl⟩ := len2 hl
    obtain ⟨vx, xs1, rfl, hax, vy, xs2, rfl, hay, hnn⟩ := al H6
    cases (show xs2 = [] from hnn)
    refine catA_tup (k6 _ _ (d5.ne_tup e5) e5) et (by show 2 + 2 ≤ sizeLine; decide) fun t7 H7 s7 e7 => ?_
    have hx := hin x (List.mem_cons_self ..)
    have hy := hin y (List.mem_cons_of_mem _ (List.mem_cons_self ..))
    have z1 := atm_sz hx
    have z2 := atm_sz hy
    exact q _ (.tup [.str "prim", .str z, x, y]) _ ((k4.trans k6).trans (Keep.same s7)) ((d6.same s7).more (by omega)) (at_tup e7 (ats_cons (at_str' (by decide +kernel)) (ats_cons (at_str' (signsA_ok z hz)) ((al _))))) (dw_prim (signsA_so z hz) hx hy) (by show 1 + (1 + (1 + (x.sz + (y.sz + 0)))) ≤ _; omega)
  rw [c4]
  refine iteF ?_
  refine ⟨_, rfl, rfl, _, rfl, ?_⟩
  show if decide (V.int u = V.int 5) = true then _ else _
  rcases Bool.eq_false_or_eq_true (decide (V.int u = V.int 5)) with c5 | c5
  · rw [c5]
    refine iteT ?_
    refine ⟨_, rfl, p, r, _, rfl, d1, by omega, fun x H3 hx k3 d3 => ?_⟩
    have hS3 := hS1.keep k3 d1
    refine ⟨_, rfl, _, rfl, _, _, rfl, rfl, _, rfl, _, rfl, p, r, sc, gc, _, e, _, S, gs, rfl, by omega, hen', d3, hS3, by omega, by omega, fun v4 g4 H4 k4 d4 a4 h4 hz4 => ?_⟩
    rw [hX] at d4 hz4
    have hS4 := hS3.keep k4 d3
    replace k4 := (k1.trans k3).trans k4
    refine ⟨_, rfl, _, rfl, _, rfl, _, rfl, _, _, rfl, rfl, _, rfl, _, rfl, by show 1 ≤ sizeLine; decide, fun l5 hl5 => ?_⟩
    have s5 := same_new hl5 (.lst [.str x])
    refine ⟨sc, l5, _, _, rfl, rfl, s5 _ _ hS4.s, upd_same, by rw [List.length_map]; show S.length + 1 ≤ sizeLine; omega, fun l6 hl6 => ?_⟩
    have s6 := sameT s5 (same_new hl6 (.lst (S.map V.str ++ [.str x])))
    have e6 : upd (upd H4 l5 (.lst [.str x])) l6 (.lst (S.map V.str ++ [.str x])) l6 = some (.lst ((S ++ [x]).map V.str)) := by rw [upd_same, List.map_append]; rfl
    have d6 := d4.same s6
    have g6 := s6 _ _ hS4.g
    have k6 := k4.trans (Keep.same s6)
    have a46 := a4.keep (fr_same (B := F0) s6)
    generalize upd (upd H4 l5 (.lst [.str x])) l6 (.lst (S.map V.str ++ [.str x])) = H6 at e6 d6 k6 g6 a46 ⊢
    clear s6 s5 hl6
    refine ⟨_, rfl, p, r, l6, gc, _, e, _, S ++ [x], gs, rfl, by omega, hen', d6, ⟨e6, g6, fun s hs => ?_, hS.go, hS.g0, hS.gl⟩, by rw [List.length_append]; show S.length + 1 + _ ≤ _; omega, by omega, fun v7 g7 H7 k7 d7 a7 h7 hz7 => ⟨by show 4 ≤ sizeLine; decide, fun t8 ht8 => ?_⟩⟩
    · rcases List.mem_append.mp hs with e' | e'
      · exact hS.so s e'
      · rw [List.mem_singleton.mp e']
        exact hx
    rw [hX] at d7 hz7
    have s8 := same_new ht8 (.tup [.str "seq", .str x, v4, v7])
    exact q _ (.tup [.str "seq", .str x, g4, g7]) _ ((k6.trans k7).trans (Keep.same s8)) ((d7.same s8).more (by omega)) (at_tup upd_same (ats_cons (at_str' (by decide +kernel)) (ats_cons (at_str' hx.len) (ats_cons ((a46.keep (fr_keep (B := F0) k7 d6)).keep (fr_same s8)) (ats_cons (a7.keep (fr_same s8)) ats_nil))))) (dw_seq (n := 2 * e + 2) hx (h4.mono (by omega)) (h7.mono (by omega))) (by show 1 + (1 + (1 + (g4.sz + (g7.sz + 0)))) ≤ _; omega)
  rw [c5]
  refine iteF ?_
  refine ⟨_, rfl, rfl, _, rfl, ?_⟩
  show if decide (V.int u = V.int 6) = true then _ else _
  rcases Bool.eq_false_or_eq_true (decide (V.int u = V.int 6)) with c6 | c6
  · rw [c6]
    refine iteT ?_
    refine ⟨_, rfl, p, r, 90, _, rfl, (by decide), d1, fun i H2 i0 i1 k2 d2 => ?_⟩
    have hS2 := hS1.keep k2 d1
    refine ⟨_, rfl, _, rfl, _, _, rfl, rfl, _, rfl, _, rfl, p, r, sc, gc, _, e, _, S, gs, rfl, by omega, hen', d2, hS2, by omega, by omega, fun v4 g4 H4 k4 d4 a4 h4 hz4 => ⟨by show 3 ≤ sizeLine; decide, fun t7 ht7 => ?_⟩⟩
    rw [hX] at d4 hz4
    have s7 := same_new ht7 (.tup [.str "note", .int i, v4])
    exact q _ (.tup [.str "note", .int i, g4]) _ (((k1.trans k2).trans k4).trans (Keep.same s7)) ((d4.same s7).more (by omega)) (at_tup upd_same (ats_cons (at_str' (by decide +kernel)) (ats_cons at_int' (ats_cons (a4.keep (fr_same s7)) ats_nil)))) (dw_note (n := 2 * e + 2) i0 (by omega) (h4.mono (by omega))) (by show 1 + (1 + (1 + (g4.sz + 0))) ≤ _; omega)
  rw [c6]
  refine iteF ?_
  refine ⟨_, rfl, rfl, _, rfl, ?_⟩
  show if decide (V.int u = V.int 7) = true then _ else _
  rcases Bool.eq_false_or_eq_true (decide (V.int u = V.int 7)) with c7 | c7
  · rw [c7]
    refine iteT ?_
    refine ⟨_, rfl, _, rfl, p, r, 3, _, rfl, (by decide), d1, fun m G2 m0 m1 k2 d2 => ?_⟩
    refine ⟨_, _, rfl, rfl, p, r, _, (1 + m).toNat, by rw [Int.toNat_of_nonneg (by omega)]; rfl, by omega, d2, by omega, fun D zs G7 k7 d7 hD0 h1 hzs h5 h6 h6' => ?_⟩
    have hm3 : (1 + m).toNat ≤ 3 := by omega
    have hm1 : 0 < (1 + m).toNat := by omega
    have hz0 := h6' hm1
    replace d7 : DrawsAt G7 p r (B + 3) := d7.more (by omega)
    have hzl : zs.length ≤ 3 := by omega
    have hS7 := hS1.keep (k2.trans k7) d1
    replace k7 := (k1.trans k2).trans k7
    have nDp := d7.ne_list h1
    clear h6 h6' hm3 hm1 hD0
    refine ⟨_, rfl, D, rfl, ⟨_, SqL.of h1⟩, fun D2 hD2 => ?_⟩
    obtain ⟨nD2p, nD2r⟩ := d7.fresh hD2
    refine lc_list (a := D) (xs := zs.map V.str) (fun i G => Keep p G7 G ∧ DrawsAt G p r (B + 3 + i * X) ∧ ∃ (rows : List (Str × Dd)) (us : List V), G D2 = some (.lst us) ∧ Dd.Ats F0 G (rows.map rowL) us ∧ rows.map (·.1) = zs.take i ∧ ∀ q ∈ rows, Dw (2 * e + 2) false q.2 ∧ q.2.sz ≤ X + 2) ⟨Keep.same (same_new hD2 _), (d7.same (same_new hD2 _)).more (by omega), [], [], upd_same, rfl, rfl, fun q h => absurd h List.not_mem_nil⟩ (fun i G hi ⟨h, _⟩ => SqL.of (h _ _ nDp h1)) ?_ ?_
    · rintro i x G hx ⟨kG, dG, rows, us, eD, aU, hrn, hrd⟩
      rw [List.getElem?_map] at hx
      obtain ⟨z, hz, rfl⟩ := Option.map_eq_some_iff.mp hx
      have hil : i < zs.length := (List.getElem?_eq_some_iff.mp hz).1
      have hi1 : i ≤ 2 := by omega
      have hic : i * X ≤ 2 * X := Nat.mul_le_mul_right _ hi1
      have hic1 : (i + 1) * X = i * X + X := Nat.succ_mul _ _
      have hzn := hzs z (List.mem_of_getElem? hz)
      have hul := ats_len aU
      rw [List.length_map] at hul
      have hrl : rows.length = i := by
        have e' := congrArg List.length hrn
        rw [List.length_map, List.length_take] at e'
        omega
      refine ⟨rfl, ?_⟩
      refine tYes_if ?_
      have hDG := kG _ _ nDp h1
      have hSG := hS7.keep kG d7
      refine ⟨_, rfl, _, rfl, _, rfl, _, rfl, _, rfl, sc, D, _, _, rfl, rfl, hSG.s, hDG, by rw [List.length_map, List.length_map]; omega, fun l9 hl9 => ?_⟩
      have s9 := same_new hl9 (.lst (S.map V.str ++ zs.map V.str))
      have e9 : upd G l9 (.lst (S.map V.str ++ zs.map V.str)) l9 = some (.lst ((S ++ zs).map V.str)) := by rw [upd_same, List.map_append]
      have d9 := dG.same s9
      have g9 := s9 _ _ hSG.g
      have kG9 := kG.trans (Keep.same s9)
      have eD9 := s9 _ _ eD
      have aU9 := aU.keep (fr_same (B := F0) s9)
      generalize upd G l9 (.lst (S.map V.str ++ zs.map V.str)) = G9 at e9 d9 kG9 eD9 aU9 g9 ⊢
      clear s9
      refine ⟨_, rfl, p, r, l9, gc, _, e, _, S ++ zs, gs, rfl, hd', hen', d9, ⟨e9, g9, fun s hs => (List.mem_append.mp hs).elim (hS.so s) (hzs s), hS.go, hS.g0, hS.gl⟩, by rw [List.length_append]; omega, by omega, fun v6 g6 G10 k10 d10 a10 h10 hz10 => ⟨by show 2 ≤ sizeLine; decide, fun t11 ht11 => ?_⟩⟩
      rw [hX] at d10 hz10
      have s11 := same_new ht11 (.tup [.str z, v6])
      have eD11 := s11 _ _ (k10 _ _ nD2p eD9)
      have e11 : (rowL (z, g6)).At F0 (upd G10 t11 (.tup [.str z, v6])) (.ref t11) := at_tup upd_same (ats_cons (at_str' hzn.len) (ats_cons (a10.keep (fr_same s11)) ats_nil))
      have d11 := d10.same s11
      have k11 := (kG9.trans k10).trans (Keep.same s11)
      have aU11 := (aU9.keep (fr_keep (B := F0) k10 d9)).keep (fr_same (B := F0) s11)
      generalize upd G10 t11 (.tup [.str z, v6]) = G11 at eD11 e11 d11 k11 aU11 ⊢
      have fL : Fr F0 G11 (upd G11 D2 (.lst (us ++ [.ref t11]))) := fr_list eD11 fun z => z
      refine ⟨us, eD11, szl (by omega), keep_upd hD2 k11 _, (d11.off nD2p nD2r _).more (by omega), rows ++ [(z, g6)], us ++ [.ref t11], upd_same, ?_, ?_, fun y hy => ?_⟩
      · rw [List.map_append]
        exact ats_app (aU11.keep fL) (ats_one (e11.keep fL))
      · rw [List.map_append, hrn, List.take_add_one, hz]
        rfl
      · rcases List.mem_append.mp hy with e' | e'
        · exact hrd y e'
        · rw [List.mem_singleton.mp e']
          exact ⟨h10, hz10⟩
    rintro G8 ⟨kG8, d8, rows, us, eD, aU, hrn, hrd⟩
    rw [List.length_map] at d8 hrn
    rw [List.take_length] at hrn
    have hrl : rows.length = zs.length := by rw [← hrn, List.length_map]
    have hic : zs.length * X ≤ 3 * X := Nat.mul_le_mul_right _ hzl
    refine ⟨D2, us, rfl, .inl ⟨SqL.of eD, fun t9 ht9 => ?_⟩⟩
    have s9 := same_new ht9 (.tup us)
    have e9 : (Dd.tup (rows.map rowL)).At F0 (upd G8 t9 (.tup us)) (.ref t9) := at_tup upd_same (aU.keep (fr_same s9))
    have d9 := d8.same s9
    have k9 := (k7.trans kG8).trans (Keep.same s9)
    have hS9 := (hS7.keep kG8 d7).same s9
    have hD9 := s9 _ _ (kG8 _ _ nDp h1)
    generalize upd G8 t9 (.tup us) = G9 at e9 d9 k9 hS9 hD9 ⊢
    clear s9
    refine ⟨_, rfl, _, rfl, _, rfl, _, _, rfl, rfl, _, rfl, _, rfl, sc, D, _, _, rfl, rfl, hS9.s, hD9, by rw [List.length_map, List.length_map]; omega, fun l10 hl10 => ?_⟩
    have s10 := same_new hl10 (.lst (S.map V.str ++ zs.map V.str))
    have e10 : upd G9 l10 (.lst (S.map V.str ++ zs.map V.str)) l10 = some (.lst ((S ++ zs).map V.str)) := by rw [upd_same, List.map_append]
    have d10 := d9.same s10
    have g10 := s10 _ _ hS9.g
    have e9' := e9.keep (fr_same (B := F0) s10)
    have k10 := k9.trans (Keep.same s10)
    generalize upd G9 l10 (.lst (S.map V.str ++ zs.map V.str)) = G10 at e10 d10 k10 g10 e9' ⊢
    clear s10
    refine ⟨_, rfl, p, r, l10, gc, _, e, _, S ++ zs, gs, rfl, by omega, hen', d10, ⟨e10, g10, fun s hs => (List.mem_append.mp hs).elim (hS.so s) (hzs s), hS.go, hS.g0, hS.gl⟩, by rw [List.length_append]; omega, by omega, fun v11 g11 G11 k11 d11 a11 h11 hz11 => ⟨by show 3 ≤ sizeLine; decide, fun t12 ht12 => ?_⟩⟩
    rw [hX] at d11 hz11
    have s12 := same_new ht12 (.tup [.str "let", .ref t9, v11])
    have hsz := szs_leL (z := X + 2) (l := rows) fun q hq => (hrd q hq).2
    rw [hrl] at hsz
    have hsz2 : zs.length * (X + 2 + 2) ≤ 3 * (X + 2 + 2) := Nat.mul_le_mul_right _ hzl
    exact q _ (.tup [.str "let", .tup (rows.map rowL), g11]) _ ((k10.trans k11).trans (Keep.same s12)) ((d11.same s12).more (by omega)) (at_tup upd_same (ats_cons (at_str' (by decide +kernel)) (ats_cons ((e9'.keep (fr_keep (B := F0) k11 d10)).keep (fr_same s12)) (ats_cons (a11.keep (fr_same s12)) ats_nil)))) (dw_let (n := 2 * e + 2) (by omega) (fun s hs => hzs s (by rw [hrn] at hs; exact hs)) (by rw [hrn]; exact h5) (fun q hq => (hrd q hq).1) (h11.mono (by omega))) (by show 1 + (1 + ((1 + Dd.szs (rows.map rowL)) + (g11.sz + 0))) ≤ _; omega)
  rw [c7]
  refine iteF ?_
  have hu8 : u = 8 ∨ u = 9 := by
    have h3 : u ≠ 3 := fun z => absurd (congrArg V.int z) (of_decide_eq_false c3)
    have h4 : u ≠ 4 := fun z => absurd (congrArg V.int z) (of_decide_eq_false c4)
    have h5 : u ≠ 5 := fun z => absurd (congrArg V.int z) (of_decide_eq_false c5)
    have h6 : u ≠ 6 := fun z => absurd (congrArg V.int z) (of_decide_eq_false c6)
    have h7 : u ≠ 7 := fun z => absurd (congrArg V.int z) (of_decide_eq_false c7)
    omega
  refine ⟨_, rfl, _, rfl, _, rfl, _, rfl, by show 2 ≤ sizeLine; decide, fun lz hlz => ?_⟩
  have s3 := same_new hlz (.lst [.str "case", .str "pick"])
  have e3 : upd H1 lz (.lst [.str "case", .str "pick"]) lz = some (.lst ([("case" : Str), "pick"].map V.str)) := upd_same
  have d3 := d1.same s3
  have hS3 := hS1.same s3
  have k3 := k1.trans (Keep.same s3)
  generalize upd H1 lz (.lst [.str "case", .str "pick"]) = H3 at e3 d3 hS3 k3 ⊢
  obtain ⟨kd, hkd, ekd⟩ := at_str (zs := ["case", "pick"]) (i := u - 8) (by omega) (by show u - 8 < 2; omega)
  have hkw : kd = "case" ∨ kd = "pick" := by
    simp only [List.mem_cons, List.not_mem_nil, or_false] at hkd
    exact hkd
  refine ⟨_, rfl, _, _, rfl, rfl, lz, _, _, _, rfl, rfl, SqL.of e3, ekd, ?_⟩
  refine ⟨p, r, sc, gc, _, e, _, S, gs, kd, rfl, hkw, hd', hen', d3, hS3, by omega, by omega, fun v k G kG dG aG hG hz => ?_⟩
  rw [hX] at dG hz
  exact q v k G (k3.trans kG) (dG.more (by omega)) aG (hG.mono (by omega)) (by omega)
theorem c_lbody {f fdl fdm fch : Addr} {fd dl dm dch : FuncData} (T : TxtW mg) (c_law_next : C8.Cal P w K mg base 2 "_law_next" spNext []) (c_law_fresh : C8.Cal P w K mg base 3 "_law_fresh" spFresh []) (c_law_names : C8.Cal P w K mg base 4 "_law_names" spNames []) (c_law_atom : C8.Cal P w K mg base 3 "_law_atom" spLAtom []) (c_law_atoms : C8.Cal P w K mg base 4 "_law_atoms" spLAtoms [])
    (Fl : Fun K "_law_default" "_law_default" sLDef fdl dl) (bl : Binds K dl ["w", "depth", "scope", "functions"] []) (ml : mg "_law_default" = some (.ref fdl))
    (Fm : Fun K "_law_member" "_law_member" sLMem fdm dm) (bm : Binds K dm ["w", "depth", "scope", "functions"] []) (mm : mg "_law_member" = some (.ref fdm))
    (Fc : Fun K "_law_choice" "_law_choice" sLCh fch dch) (bc : Binds K dch ["w", "depth", "scope", "functions", "kind"] []) (mc : mg "_law_choice" = some (.ref fch))
    (F : Fun K "_law_body" "_law_body" sLBody f fd) (b : Binds K fd ["w", "depth", "scope", "functions"] []) (hm : mg "_law_body" = some (.ref f)) : ∀ n : Nat, C8.Cal P w K mg base (3 * n + 5) "_law_body" (spLBody n) []
  | 0 => cal_none F hm b fun vs H Q E h => by
    obtain ⟨p, r, sc, gc, B, e, d, S, gs, _, _, h, _⟩ := h
    exact Nat.not_lt_zero _ h
  | n + 1 => by
    have ct := c_lbody T c_law_next c_law_fresh c_law_names c_law_atom c_law_atoms Fl bl ml Fm bm mm Fc bc mc F b hm n
    exact c_lbody1 T c_law_next c_law_fresh c_law_names c_law_atom c_law_atoms ct (c_lmember T c_law_next c_law_atoms ct Fm bm mm) (c_lchoice T c_law_next c_law_names ct (c_ldefault T c_law_next c_law_fresh ct Fl bl ml) Fc bc mc) F b hm
end
end Toy

set_option Elab.async false
set_option linter.all false
set_option maxRecDepth 100000
set_option maxHeartbeats 8000000
/-! Part ZA6: the law. -/
namespace Toy
open PySem L2
open PyProof.Rows (envOfC)
theorem cutT_to (xs : List V) (k : Nat) (h : k ≤ xs.length) : cutV xs none (some (k : Int)) = xs.take k := by
  unfold cutV
  rw [HT.sIx_none, HT.sIx_nat, Nat.min_eq_left h, List.drop_zero, Nat.sub_zero]
theorem cut_strs {zs : List Str} {n : Int} (h0 : 0 ≤ n) (h1 : n ≤ (zs.length : Int)) : cutV (zs.map V.str) none (some n) = (zs.take n.toNat).map V.str := by
  have e := cutT_to (zs.map V.str) n.toNat (by rw [List.length_map]; omega)
  rw [Int.toNat_of_nonneg h0] at e
  rw [e, List.map_take]
def Told.P : Told → List PyData
  | .unk z => [.str "unknown", .str z]
  | .arity z => [.str "arity", .str z]
  | .code => [.str "code", .int 0]
def Told.ok : Told → Prop
  | .unk z => PyData.strOk z = true
  | .arity z => PyData.strOk z = true
  | .code => True
theorem told_dp {K : PySem.W.Frag} {B : Addr → Prop} {H : Hp} {v : V} : ∀ t : Told, t.D.At B H v → ∃ a xs, v = .ref a ∧ SqT K H a xs ∧ DpAll K H xs t.P
  | .unk z, ⟨a, xs, e, h, x, ys, e1, h1, y, zs, e2, h2, e3⟩ => by
    cases (show zs = [] from e3); cases e2; cases e1; cases e; cases h1.1; cases h2.1
    exact ⟨_, _, rfl, SqT.of h, .cons (.str _) (.cons (.str _) .nil)⟩
  | .arity z, ⟨a, xs, e, h, x, ys, e1, h1, y, zs, e2, h2, e3⟩ => by
    cases (show zs = [] from e3); cases e2; cases e1; cases e; cases h1.1; cases h2.1
    exact ⟨_, _, rfl, SqT.of h, .cons (.str _) (.cons (.str _) .nil)⟩
  | .code, ⟨a, xs, e, h, x, ys, e1, h1, y, zs, e2, h2, e3⟩ => by
    cases (show zs = [] from e3); cases e2; cases e1; cases e; cases h1.1; cases (show y = .int 0 from h2)
    exact ⟨_, _, rfl, SqT.of h, .cons (.str _) (.cons (.int _) .nil)⟩
theorem two_lay {a s : Str} (h1 : PyData.strOk a = true) (h2 : PyData.strOk s = true) : PyData.canLay0 (.tuple [.str a, .str s]) = true := by
  simp [PyData.canLay0, PyData.canLayAll0, h1, h2]
theorem two_depth {a s : Str} : PyData.depth (.tuple [.str a, .str s]) ≤ 64 := by
  simp [PyData.depth, PyData.depthAll]
theorem told_lay : ∀ t : Told, t.ok → PyData.canLay0 (.tuple t.P) = true
  | .unk s, h => two_lay (by decide +kernel) h
  | .arity s, h => two_lay (by decide +kernel) h
  | .code, _ => by
    have e : PyData.strOk "code" = true := by decide +kernel
    simp [Told.P, PyData.canLay0, PyData.canLayAll0, e]
theorem told_deep : ∀ t : Told, PyData.depth (.tuple t.P) ≤ 64
  | .unk s => two_depth
  | .arity s => two_depth
  | .code => by simp [Told.P, PyData.depth, PyData.depthAll]
theorem told_shaped {t : Told} (h : t.ok) : SeqAt.shaped (.tuple t.P) = true := by
  unfold SeqAt.shaped
  rw [told_lay t h, decide_eq_true (told_deep t)]
  rfl
theorem told_eq {t : Told} (h : t.ok) : PyData.eqv (.tuple t.P) (.tuple t.P) = true := SeqAt.eqv_refl _ (told_lay t h)
theorem exp2_ok {m : Str} (h : PyData.strOk m = true) : ∀ fs : List FnT, (exp2 m fs).ok
  | [] => h
  | q :: fs => by
    show (if q.1 = m then (if q.2.1 = [] then Told.code else .arity m) else exp2 m fs).ok
    split
    · split
      · trivial
      · exact h
    · exact exp2_ok h fs
theorem expT_ok {fs : List FnT} {m : Str} (h : PyData.strOk m = true) (hs : ∀ q ∈ fs, q.2.2.so = true) : (expT fs m).ok := by
  unfold expT
  split
  · next z hz =>
    obtain ⟨q, hq, e⟩ := List.exists_of_findSome?_eq_some hz
    exact unk_so (hs q hq) e
  · exact exp2_ok h fs
def fnNames : List Str := ["main", "f", "g", "map", "x"]
def elseNames : List Str := ["nowhere", "map2"]
def mainNames : List Str := ["main", "main", "f", "lost"]
theorem fn_ok : ∀ s ∈ fnNames, isName (.str s) = true := by decide +kernel
theorem else_ok : ∀ s ∈ elseNames, isName (.str s) = true := by decide +kernel
theorem main_ok : ∀ s ∈ mainNames, isName (.str s) = true := by decide +kernel
theorem fn_nodup : fnNames.Nodup := by decide +kernel
structure TxtLw (mg : Str → Option Value) : Prop where
  ztuple : mg "tuple" = none
section
variable {P : Program} {w : World} {K : PySem.W.Frag} {mg : Str → Option Value} {base : Heap}
abbrev sLaw : Stmt := topS 65
theorem scLaw : FnScope ["script", "w", "names", "named", "functions", "name", "params", "main"] ["script"] (defScope sLaw) := ⟨rfl, rfl, rfl, by decide +kernel, rfl, by decide +kernel, by decide +kernel⟩
def spLaw (K : PySem.W.Frag) : Sp := fun vs H Q _ => ∃ (a : Addr) (ns : List Int), vs = [.ref a] ∧ SqL K H a (ns.map V.int) ∧ ns.length ≤ 63 ∧ ∀ H', Q (.bl true) H'
theorem c_law {f : Addr} {fd : FuncData} (T : TxtLw mg) (c_law_draws : C8.Cal P w K mg base 1 "_law_draws" (spDraws K) []) (c_law_next : C8.Cal P w K mg base 2 "_law_next" spNext []) (c_law_body : C8.Cal P w K mg base (3 * 5 + 5) "_law_body" (spLBody 5) []) (c_law_actual : C8.Cal P w K mg base 10 "_law_actual" spActual []) (c_law_expected : C8.Cal P w K mg base (2 * 9 + 2) "_law_expected" (spExpected 9) [])
    (F : Fun K "law" "law" sLaw f fd) : FnOk P w K mg base CX0 21 f fd ["script"] (spLaw K) := by
  refine F.ok scLaw (fun vs H Q E h => ?_) (fun cdv A outer s H vs Q E hr h => ?_)
  · obtain ⟨a, ns, rfl, _⟩ := h
    rfl
  obtain ⟨a, ns, rfl, hS, h63, q⟩ := h
  have hu := hu_of hr
  have hu64 := hr.units
  have hbig := big
  refine ⟨_, (pss_cons (ps_set (i := 1) scLaw.nd rfl (Or.inl rfl) (pe_disp (pps_cons pe_str (C8.pe_c c_law_draws hr (by decide) rfl (pa_cons (pv 0) (pa_cons pe_int pa_nil))) (pps_cons pe_str pe_int (pps_cons pe_str pe_int pps_nil))) rfl rfl (by decide) (by decide)))
    (pss_cons (ps_set (i := 2) scLaw.nd rfl (Or.inl rfl) (pe_slice sl_list (pe_lst (pa_strs (zs := ["main", "f", "g", "map", "x"]) rfl)) po_none (po_some (pe_op op_add pe_int (C8.pe_c c_law_next hr (by decide) rfl (pa_cons (pv 1) (pa_cons pe_int pa_nil)))))))
    (pss_cons (ps_set (i := 3) scLaw.nd rfl (Or.inl rfl) (pv 2))
    (C8.pss_cut (ps_if (pt_cmpR op_gt (C8.pe_c c_law_next hr (by decide) rfl (pa_cons (pv 1) (pa_cons pe_int pa_nil))) pe_int (nomark _))
      (pss_one (ps_set (i := 3) scLaw.nd rfl (Or.inl rfl) (pe_op op_cat (pv 2) (pe_slice sl_list (pe_lst (pa_cons pe_str (pa_cons pe_str pa_nil))) po_none (po_some (pe_op op_add pe_int (C8.pe_c c_law_next hr (by decide) rfl (pa_cons (pv 1) (pa_cons pe_int pa_nil)))))))))
      pss_nil)
    (pss_cons (ps_set (i := 4) scLaw.nd rfl (Or.inl rfl) (pe_lst pa_nil))
    (pss_cons (ps_for PassesOwn.never rfl (pi_list (pv 2)) (pg_name (i := 5) scLaw.nd rfl (Or.inl rfl))
      (pss_cons (ps_set (i := 6) scLaw.nd rfl (Or.inl rfl) (pe_lst pa_nil))
    (C8.pss_cut (ps_if (pt_cmpR op_ne (pv 5) pe_str (nomark _))
      (pss_one (ps_set (i := 6) scLaw.nd rfl (Or.inl rfl) (pe_slice sl_list (pe_lst (pa_strs (zs := ["a", "x", "b"]) rfl)) po_none (po_some (C8.pe_c c_law_next hr (by decide) rfl (pa_cons (pv 1) (pa_cons pe_int pa_nil)))))))
      pss_nil)
    (pss_one (ps_expr (pe_bm PySem.F.plainAttrs_list PySem.F.slot_list_append PySem.F.type_list_append mt_append (pv 4) (pa_cons (pe_tup (pa_cons (pv 5) (pa_cons (pe_callTy call_tuple_of rfl T.ztuple boot_tuple (pa_cons (pv 6) pa_nil)) (pa_cons (C8.pe_c c_law_body hr (by decide) rfl (pa_cons (pv 1) (pa_cons (pe_op op_add pe_int (C8.pe_c c_law_next hr (by decide) rfl (pa_cons (pv 1) (pa_cons pe_int pa_nil)))) (pa_cons (pv 6) (pa_cons (pv 3) pa_nil))))) pa_nil)))) pa_nil)))))))
    (pss_cons (ps_set (i := 7) scLaw.nd rfl (Or.inl rfl) (pe_ix ix_list (pe_lst (pa_strs (zs := ["main", "main", "f", "lost"]) rfl)) (C8.pe_c c_law_next hr (by decide) rfl (pa_cons (pv 1) (pa_cons pe_int pa_nil))) (fun _ _ => rfl)))
    (pss_one (ps_ret (pe_cmpR (op_eqD hu64) (C8.pe_c c_law_actual hr (by decide) rfl (pa_cons (pe_callTy call_tuple_of rfl T.ztuple boot_tuple (pa_cons (pv 4) pa_nil)) (pa_cons (pv 7) pa_nil))) (C8.pe_c c_law_expected hr (by decide) rfl (pa_cons (pv 4) (pa_cons (pv 7) pa_nil))) (nomark _))))))))))), ?_⟩
  intro p hp
  refine ⟨_, rfl, a, ns, 420, rfl, (same_new hp _).seq hS, h63, by decide, fun r row H2 hr0 s2 hrow => ?_⟩
  have npr : r ≠ p := fun e => by rw [e, upd_same] at hr0; cases hr0
  have hp2 := s2 _ _ (upd_same (H := H) (a := p) (o := .dK []))
  refine ⟨hp2, [(Sum.inr "draws", V.ref r), (Sum.inr "at", V.int 0), (Sum.inr "fresh", V.int 0)], rfl, (by show 3 ≤ 15; decide), ?_⟩
  have d2 : DrawsAt (upd H2 p (.dK (mergeK [] [(Sum.inr "draws", V.ref r), (Sum.inr "at", V.int 0), (Sum.inr "fresh", V.int 0)]))) p r 0 := ⟨row, 0, 0, by rw [upd_same, dk_merge]; rfl, by rw [upd_ne npr]; exact hrow, by decide, by decide⟩
  generalize upd H2 p (.dK (mergeK [] [(Sum.inr "draws", V.ref r), (Sum.inr "at", V.int 0), (Sum.inr "fresh", V.int 0)])) = H2 at d2 ⊢
  clear hp2 s2 hrow hr0 hp npr
  refine ⟨by show 5 ≤ sizeLine; decide, fun l3 hl3 => ?_⟩
  have s3 := same_new hl3 (.lst (List.map V.str [("main" : Str), "f", "g", "map", "x"]))
  have e3 : upd H2 l3 (.lst (List.map V.str [("main" : Str), "f", "g", "map", "x"])) l3 = some (.lst (fnNames.map V.str)) := upd_same
  have d3 := d2.same s3
  generalize upd H2 l3 (.lst (List.map V.str [("main" : Str), "f", "g", "map", "x"])) = H3 at e3 d3 ⊢
  clear d2 s3 hl3
  refine ⟨_, rfl, p, r, 5, _, rfl, (by decide), d3, fun n H4 n0 n1 k4 d4 => ?_⟩
  have e4 := k4 _ _ (d3.ne_list e3) e3
  refine ⟨_, _, rfl, rfl, _, rfl, l3, _, rfl, SqL.of e4, fun l5 hl5 => ?_⟩
  rw [cut_strs (zs := fnNames) (by omega) (by show 1 + n ≤ 5; omega)]
  have hnl : (fnNames.take (1 + n).toNat).length = (1 + n).toNat := by rw [List.length_take]; show min _ 5 = _; omega
  have hno : ∀ s ∈ fnNames.take (1 + n).toNat, isName (.str s) = true := fun s hs => fn_ok s (List.mem_of_mem_take hs)
  have hnd : (fnNames.take (1 + n).toNat).Nodup := fn_nodup.sublist (List.take_sublist _ _)
  generalize fnNames.take (1 + n).toNat = names at hnl hno hnd ⊢
  have hn1 : 0 < names.length := by omega
  have hn5 : names.length ≤ 5 := by omega
  have s5 := same_new hl5 (.lst (names.map V.str))
  have e5 : upd H4 l5 (.lst (names.map V.str)) l5 = some (.lst (names.map V.str)) := upd_same
  have d5 := d4.same s5
  generalize upd H4 l5 (.lst (names.map V.str)) = H5 at e5 d5 ⊢
  clear s5 hl5 e4 k4 d4 hnl
  show gName 2 (V.ref l5) _ _ _
  refine ⟨_, rfl, ?_⟩
  refine ⟨fun σ G => ∃ (gc : Addr) (gs : List Str), σ = [some (.ref a), some (.ref p), some (.ref l5), some (.ref gc), none, none, none, none] ∧ DrawsAt G p r 0 ∧ G l5 = some (.lst (names.map V.str)) ∧ G gc = some (.lst (gs.map V.str)) ∧ (∀ s ∈ gs, isName (.str s) = true) ∧ 0 < gs.length ∧ gs.length ≤ 7, ?_, ?_⟩
  · refine ⟨_, rfl, p, r, 3, _, rfl, (by decide), d5, fun u H6 u0 u1 k6 d6 => ?_⟩
    have e6 := k6 _ _ (d5.ne_list e5) e5
    refine ⟨_, _, rfl, rfl, _, rfl, ?_⟩
    refine ite2 (fun _ => ?_) (fun _ => ?_)
    · refine ⟨_, rfl, by show 2 ≤ sizeLine; decide, fun l7 hl7 => ?_⟩
      have s7 := same_new hl7 (.lst [.str "nowhere", .str "map2"])
      have e7 : upd H6 l7 (.lst [.str "nowhere", .str "map2"]) l7 = some (.lst (elseNames.map V.str)) := upd_same
      have d7 := d6.same s7
      have e57 := s7 _ _ e6
      generalize upd H6 l7 (.lst [.str "nowhere", .str "map2"]) = H7 at e7 d7 e57 ⊢
      clear s7 hl7
      refine ⟨_, rfl, p, r, 2, _, rfl, (by decide), d7, fun m H8 m0 m1 k8 d8 => ?_⟩
      have e8 := k8 _ _ (d7.ne_list e7) e7
      have e58 := k8 _ _ (d7.ne_list e57) e57
      refine ⟨_, _, rfl, rfl, _, rfl, l7, _, rfl, SqL.of e8, fun l9 hl9 => ?_⟩
      rw [cut_strs (zs := elseNames) (by omega) (by show 1 + m ≤ 2; omega)]
      have s9 := same_new hl9 (.lst ((elseNames.take (1 + m).toNat).map V.str))
      have hml : (elseNames.take (1 + m).toNat).length ≤ 2 := by rw [List.length_take]; show min _ 2 ≤ 2; omega
      refine ⟨l5, l9, _, _, rfl, rfl, s9 _ _ e58, upd_same, by rw [List.length_map, List.length_map]; omega, fun l10 hl10 => ?_⟩
      have s10 := same_new hl10 (.lst (names.map V.str ++ (elseNames.take (1 + m).toNat).map V.str))
      refine ⟨l10, names ++ elseNames.take (1 + m).toNat, rfl, (d8.same s9).same s10, s10 _ _ (s9 _ _ e58), by rw [upd_same, List.map_append], fun s hs => ?_, by rw [List.length_append]; omega, by rw [List.length_append]; omega⟩
      rcases List.mem_append.mp hs with e | e
      · exact hno s e
      · exact else_ok s (List.mem_of_mem_take e)
    · exact ⟨l5, names, rfl, d6, e6, e6, hno, hn1, by omega⟩
  rintro σ G ⟨gc, gs, rfl, dG, e1, e2, hgo, hg0, hg7⟩
  clear e5 d5 H5 e3 d3
  have hz4 : zB 4 = 24980 := by decide
  refine ⟨by show 0 ≤ sizeLine; decide, fun Lf hLf => ?_⟩
  obtain ⟨nLp, nLr⟩ := dG.fresh hLf
  have s6 := same_new hLf (.lst [])
  have nL5 : l5 ≠ Lf := fun z => by rw [z, hLf] at e1; cases e1
  have nLg : gc ≠ Lf := fun z => by rw [z, hLf] at e2; cases e2
  have n5p := dG.ne_list e1
  have ngp := dG.ne_list e2
  refine ⟨_, rfl, l5, rfl, ⟨_, SqL.of (s6 _ _ e1)⟩, for_list (a := l5) (xs := names.map V.str) (fun i st G2 => ∃ (v5 v6 : Option V) (xs : List V) (fs : List FnT), st = [some (.ref a), some (.ref p), some (.ref l5), some (.ref gc), some (.ref Lf), v5, v6, none] ∧ Keep p G G2 ∧ DrawsAt G2 p r (i * 24980) ∧ G2 Lf = some (.lst xs) ∧ Dd.Ats F0 G2 (fs.map fnD) xs ∧ fs.map (·.1) = names.take i ∧ ∀ q ∈ fs, Dw 9 true q.2.2 ∧ q.2.2.sz ≤ 24980 ∧ (∀ s ∈ q.2.1, nmOk s) ∧ q.2.1.length ≤ 3)
    ⟨_, _, [], [], rfl, Keep.same s6, (dG.same s6).more (by omega), upd_same, rfl, rfl, fun q h => absurd h List.not_mem_nil⟩ (fun i st G2 _ ⟨_, _, _, _, _, h, _⟩ => SqL.of (h _ _ n5p e1)) ?_ ?_⟩
  · rintro i x st G2 hx ⟨v5, v6, xs, fs, rfl, kG, d2, eL, aL, hfn, hfs⟩
    rw [List.getElem?_map] at hx
    obtain ⟨z, hz, rfl⟩ := Option.map_eq_some_iff.mp hx
    have hil : i < names.length := (List.getElem?_eq_some_iff.mp hz).1
    have hzn := hno z (List.mem_of_getElem? hz)
    have hxl := ats_len aL
    rw [List.length_map] at hxl
    have hfl : fs.length = i := by
      have e' := congrArg List.length hfn
      rw [List.length_map, List.length_take] at e'
      omega
    have hi4 : i * 24980 ≤ 4 * 24980 := Nat.mul_le_mul_right _ (by omega)
    have hi5 : (i + 1) * 24980 = i * 24980 + 24980 := Nat.succ_mul _ _
    refine ⟨by show 0 ≤ sizeLine; decide, fun l7 hl7 => ?_⟩
    have s7 := same_new hl7 (.lst [])
    have e7 : upd G2 l7 (.lst []) l7 = some (.lst (([] : List Str).map V.str)) := upd_same
    have d7 := d2.same s7
    have k7 : Keep p G2 (upd G2 l7 (.lst [])) := Keep.same s7
    generalize upd G2 l7 (.lst []) = G7 at e7 d7 k7 ⊢
    clear s7 hl7
    refine ⟨fun σ G3 => ∃ (pa : Addr) (ps : List Str), σ = [some (.ref a), some (.ref p), some (.ref l5), some (.ref gc), some (.ref Lf), some (.str z), some (.ref pa), none] ∧ Keep p G2 G3 ∧ DrawsAt G3 p r (i * 24980) ∧ G3 pa = some (.lst (ps.map V.str)) ∧ (∀ s ∈ ps, nmOk s) ∧ ps.length ≤ 3, ?_, ?_⟩
    · refine ⟨_, rfl, rfl, _, rfl, ?_⟩
      refine ite2 (fun _ => ?_) (fun _ => ?_)
      · refine ⟨by show 3 ≤ sizeLine; decide, fun l8 hl8 => ?_⟩
        have s8 := same_new hl8 (.lst (List.map V.str [("a" : Str), "x", "b"]))
        have e8 : upd G7 l8 (.lst (List.map V.str [("a" : Str), "x", "b"])) l8 = some (.lst (nmP.map V.str)) := upd_same
        have d8 := d7.same s8
        have k8 := k7.trans (Keep.same s8)
        generalize upd G7 l8 (.lst (List.map V.str [("a" : Str), "x", "b"])) = G8 at e8 d8 k8 ⊢
        clear s8 hl8
        refine ⟨_, rfl, p, r, 4, _, rfl, (by decide), d8, fun m G9 m0 m1 k9 d9 => ?_⟩
        have e9 := k9 _ _ (d8.ne_list e8) e8
        refine ⟨_, rfl, l8, _, rfl, SqL.of e9, fun l10 hl10 => ?_⟩
        rw [cut_strs (zs := nmP) (by omega) (by show m ≤ 3; omega)]
        have s10 := same_new hl10 (.lst ((nmP.take m.toNat).map V.str))
        refine ⟨l10, nmP.take m.toNat, rfl, (k8.trans k9).trans (Keep.same s10), d9.same s10, upd_same, fun s hs => nm_ps s (List.mem_of_mem_take hs), by rw [List.length_take]; show min _ 3 ≤ 3; omega⟩
      · exact ⟨l7, [], rfl, k7, d7, e7, fun q h => absurd h List.not_mem_nil, Nat.zero_le _⟩
    rintro σ G3 ⟨pa, ps, rfl, k3, d3, epa, hps, hpl⟩
    have npp := d3.ne_list epa
    have eL3 := k3 _ _ nLp eL
    refine ⟨_, rfl, .inl ⟨rfl, _, SqL.of eL3⟩, ?_⟩
    refine ⟨_, rfl, _, rfl, pa, _, rfl, .inl ⟨SqL.of epa, fun t8 ht8 => ?_⟩⟩
    have s8 := same_new ht8 (.tup (ps.map V.str))
    have e8 : upd G3 t8 (.tup (ps.map V.str)) t8 = some (.tup (ps.map V.str)) := upd_same
    have d8 := d3.same s8
    have k8 := k3.trans (Keep.same s8)
    have epa8 := s8 _ _ epa
    generalize upd G3 t8 (.tup (ps.map V.str)) = G8 at e8 d8 k8 epa8 ⊢
    clear s8 ht8
    refine ⟨_, rfl, _, rfl, p, r, 4, _, rfl, (by decide), d8, fun m G9 m0 m1 k9 d9 => ?_⟩
    have epa9 := k9 _ _ npp epa8
    have e9 := k9 _ _ (d8.ne_tup e8) e8
    replace k9 := k8.trans k9
    have egc := k9 _ _ ngp (kG _ _ ngp e2)
    refine ⟨_, _, rfl, rfl, _, rfl, _, rfl, p, r, pa, gc, _, 4, _, ps, gs, rfl, by show 1 + m ≤ 4; omega, by decide, d9, ⟨epa9, egc, hps, hgo, hg0, by omega⟩, by omega, by rw [hz4]; omega, fun v10 k10 G10 q10 d10 a10 w10 z10 => ⟨by show 3 ≤ sizeLine; decide, fun t11 ht11 => ?_⟩⟩
    rw [hz4] at d10 z10
    have s11 := same_new ht11 (.tup [.str z, .ref t8, v10])
    have e811 := s11 _ _ (q10 _ _ (d9.ne_tup e9) e9)
    have e11 : (fnD (z, ps, k10)).At F0 (upd G10 t11 (.tup [.str z, .ref t8, v10])) (.ref t11) := at_tup upd_same (ats_cons (at_str' (str_le (d := .str z) hzn)) (ats_cons (at_tup e811 (ats_strsL hps)) (ats_cons (a10.keep (fr_same s11)) ats_nil)))
    have d11 := d10.same s11
    have k11 := (k9.trans q10).trans (Keep.same s11)
    generalize upd G10 t11 (.tup [.str z, .ref t8, v10]) = G11 at e11 d11 k11 ⊢
    have eL11 := k11 _ _ nLp eL
    have fL : Fr F0 G11 (upd G11 Lf (.lst (xs ++ [.ref t11]))) := fr_list eL11 fun z => z
    refine ⟨Lf, _, _, rfl, rfl, eL11, szl (by omega), _, _, xs ++ [.ref t11], fs ++ [(z, ps, k10)], rfl, keep_upd hLf (kG.trans k11) _, (d11.off nLp nLr _).more (by omega), upd_same, ?_, ?_, fun y hy => ?_⟩
    · rw [List.map_append]
      exact ats_app ((aL.keep (fr_keep (B := F0) k11 d2)).keep fL) (ats_one (e11.keep fL))
    · rw [List.map_append, hfn, List.take_add_one, hz]
      rfl
    · rcases List.mem_append.mp hy with e' | e'
      · exact hfs y e'
      · rw [List.mem_singleton.mp e']
        exact ⟨w10, z10, hps, hpl⟩
  rintro st G2 ⟨v5, v6, xs, fs, rfl, kG, d2, eL, aL, hfn, hfs⟩
  rw [List.length_map, List.take_length] at hfn
  have hfl : fs.length = names.length := by rw [← hfn, List.length_map]
  refine ⟨by show 4 ≤ sizeLine; decide, fun l7 hl7 => ?_⟩
  have s7 := same_new hl7 (.lst (List.map V.str [("main" : Str), "main", "f", "lost"]))
  have e7 : upd G2 l7 (.lst (List.map V.str [("main" : Str), "main", "f", "lost"])) l7 = some (.lst (mainNames.map V.str)) := upd_same
  have d7 := d2.same s7
  have eL7 := s7 _ _ eL
  have aL7 := aL.keep (fr_same (B := F0) s7)
  generalize upd G2 l7 (.lst (List.map V.str [("main" : Str), "main", "f", "lost"])) = G7 at e7 d7 eL7 aL7 ⊢
  clear s7 hl7
  refine ⟨_, rfl, p, r, 4, _, rfl, (by decide), d7, fun m G8 m0 m1 k8 d8 => ?_⟩
  obtain ⟨mn, hmn, emn⟩ := at_str (zs := mainNames) (i := m) m0 (by show m < 4; exact m1)
  refine ⟨l7, _, _, _, rfl, rfl, SqL.of (k8 _ _ (d7.ne_list e7) e7), emn, ?_⟩
  have hmno := main_ok mn hmn
  have hml := str_le (d := .str mn) hmno
  have eL8 := k8 _ _ nLp eL7
  have aL8 := aL7.keep (fr_keep (B := F0) k8 d7)
  refine ⟨_, rfl, Lf, xs, rfl, .inl ⟨SqL.of eL8, fun t9 ht9 => ?_⟩⟩
  have s9 := same_new ht9 (.tup xs)
  have e9 : upd G8 t9 (.tup xs) t9 = some (.tup xs) := upd_same
  have eL9 := s9 _ _ eL8
  have aL9 := aL8.keep (fr_same (B := F0) s9)
  generalize upd G8 t9 (.tup xs) = G9 at e9 eL9 aL9 ⊢
  have hok : FnsOk fs nmU := ⟨by omega, fun q hq => ⟨(hfs q hq).1.g, by have := (hfs q hq).2.1; omega, fun s hs => ((hfs q hq).2.2.1 s hs).2, by have := (hfs q hq).2.2.2; omega⟩, nmU_len⟩
  have hzl : ∀ q ∈ fs, ∀ z, unk (fs.map (·.1)) q.2.1 q.2.2 = some z → z.length ≤ 1000 := fun q hq z hz => by
    obtain ⟨x, hx⟩ := ats_mem aL9 (List.mem_map.mpr ⟨q, hq, rfl⟩ : fnD q ∈ fs.map fnD)
    obtain ⟨t, us, _, _, u1, us1, _, _, u2, us2, _, _, u3, us3, _, h3, _⟩ := hx
    exact unk_len h3 hz
  obtain ⟨f1, f2⟩ := told_fits (m := mn) (fun q hq => (hfs q hq).1.g) (by rw [hfn]; exact hnd) hzl
  have htok : (expT fs mn).ok := expT_ok (name_okS hmno) fun q hq => (hfs q hq).1.s
  refine ⟨_, rfl, t9, xs, fs, mn, nmU, expT fs mn, rfl, e9, aL9, hok, hml, f1, f2, fun va G10 s10 aa => ?_⟩
  refine ⟨_, rfl, _, rfl, Lf, xs, fs, mn, nmU, rfl, s10 _ _ eL9, aL9.keep (fr_same (B := F0) s10), hok, fun q hq => ⟨(hfs q hq).1.d, fun s hs => name_okS ((hfs q hq).2.2.1 s hs).1⟩, hzl, hml, fun vb G11 s11 ab => ?_⟩
  obtain ⟨a1, x1, rfl, q1, p1⟩ := told_dp (K := K) (expT fs mn) (aa.keep (fr_same (B := F0) s11))
  obtain ⟨a2, x2, rfl, q2, p2⟩ := told_dp (K := K) (expT fs mn) ab
  refine ⟨_, _, .tup q1 p1, .tup q2 p2, told_shaped htok, told_shaped htok, ?_⟩
  show Q (.bl (PyData.eqv (.tuple (expT fs mn).P) (.tuple (expT fs mn).P))) G11
  rw [told_eq htok]
  exact q _
end
end Toy

set_option Elab.async false
set_option linter.all false
set_option maxRecDepth 100000
set_option maxHeartbeats 4000000
/-! Part ZB6: written dicts whose values are defs; written tuples; the law's walk at every depth. -/
namespace Toy
open PySem L2
open PyProof.Rows (envOfC)
def strsAre : List Str → List Value → Bool
  | [], [] => true
  | z :: zs, .str x _ :: us => decide (x = z) && strsAre zs us
  | _, _ => false
theorem strsAre_ok : ∀ {zs : List Str} {us : List Value}, strsAre zs us = true → Vals (zs.map V.str) us
  | [], [], _ => .nil
  | [], _ :: _, h => by simp [strsAre] at h
  | _ :: _, [], h => by simp [strsAre] at h
  | z :: zs, u :: us, h => by
    cases u with
    | str x t =>
      simp only [strsAre, Bool.and_eq_true, decide_eq_true_eq] at h
      exact .cons ⟨t, by rw [h.1]⟩ (strsAre_ok h.2)
    | _ => simp [strsAre] at h
theorem written_tup {K : PySem.W.Frag} {a : Addr} {zs : List Str} {oc : Value} {od : Option Addr} {its : Array Value} {n : Nat} {sl : Array (Option Value)} (hz : zs.length ≤ 1000) (l : K.lookup a = some ⟨oc, od, .seq its n, sl⟩) (c : oc = .type "tuple") (v : strsAre zs its.toList = true) : ∀ H : Hp, SqT K H a (zs.map V.str) := fun H => by
  subst c
  have hv := strsAre_ok v
  have hl := hv.length
  rw [List.length_map] at hl
  have hl' : zs.length = its.size := by rw [hl]; exact Array.length_toList
  exact .inr ⟨_, its, n, l, rfl, rfl, Nat.le_of_lt (szl (by omega)), hv⟩
/-- the keys of a written dict -/
def keysAre : List DictEntry → List Str → Bool
  | [], [] => true
  | e :: es, z :: zs => (match e.key with | .str x _ => decide (x = z) | _ => false) && keysAre es zs
  | _, _ => false
theorem keys_out : ∀ {es : List DictEntry} {zs : List Str}, keysAre es zs = true → ∀ {z : Str}, z ∉ zs → es.find? (·.key.isStr z) = none ∧ es.any (·.refKey) = false
  | [], [], _, _, _ => ⟨rfl, rfl⟩
  | [], _ :: _, h, _, _ => by simp [keysAre] at h
  | _ :: _, [], h, _, _ => by simp [keysAre] at h
  | e :: es, y :: ys, h, z, n => by
    obtain ⟨h1, h2⟩ := fand h
    obtain ⟨g1, g2⟩ := keys_out h2 (fun m => n (List.mem_cons_of_mem _ m))
    obtain ⟨hs, k, v⟩ := e
    cases k with
    | str x t =>
      have hx : x = y := of_decide_eq_true h1
      subst hx
      have hzx : ¬ x = z := fun e => n (by rw [e]; exact List.mem_cons_self ..)
      have hk : (Value.str x t).isStr z = false := by
        rw [PySem.W.isStr_of]
        simp [Value.isStrOf, hzx]
      refine ⟨?_, ?_⟩
      · rw [List.find?_cons]
        show (match (Value.str x t).isStr z with | true => _ | false => _) = none
        rw [hk]
        exact g1
      · rw [List.any_cons, g2]
        rfl
    | _ => cases h1
theorem nsIn_out {K : PySem.W.Frag} {d : Addr} {es : Array DictEntry} {n : Nat} {zs : List Str} (l : K.lookup d = some ⟨.type "dict", none, .dict es n, #[]⟩) (h : keysAre es.toList zs = true) {z : Str} (nz : z ∉ zs) : PySem.W.nsIn K d z = some none := by
  obtain ⟨h1, h2⟩ := keys_out h nz
  unfold PySem.W.nsIn
  rw [l]
  show (match es.toList.find? (·.key.isStr z) with | some e => some (some e.val) | none => if es.toList.any (·.refKey) then none else some none) = _
  rw [h1]
  show (if es.toList.any (·.refKey) = true then none else some none) = _
  rw [h2]
  rfl
theorem held_of {P : Program} {w : World} {K : PySem.W.Frag} {mg : Str → Option Value} {base : Heap} {k : Nat} {x : Str} {f : Addr} {sp : Sp} (c : C8.Cal P w K mg base k x sp []) (hm : mg x = some (.ref f)) : Held P w K mg base k f sp := by
  obtain ⟨f', fd, ps, ds, F, hm', kp, b, d⟩ := c.ex
  rw [hm] at hm'
  cases hm'
  cases d
  exact ⟨fd, ps, F, kp, b⟩
def tab (l : List (Addr × Sp)) (f : Addr) : Option Sp := (l.find? fun q => decide (q.1 = f)).map (·.2)
theorem tab_mem : ∀ {l : List (Addr × Sp)}, (l.map (·.1)).Nodup → ∀ {f : Addr} {sp : Sp}, (f, sp) ∈ l → tab l f = some sp
  | q :: l, h, f, sp, m => by
    rw [List.map_cons, List.nodup_cons] at h
    unfold tab
    rw [List.find?_cons]
    rcases List.mem_cons.mp m with e | e
    · rw [← e, show decide ((f, sp).1 = f) = true from decide_eq_true rfl]
      rfl
    · rw [show decide (q.1 = f) = false from decide_eq_false fun z => h.1 (by rw [z]; exact List.mem_map.mpr ⟨_, e, rfl⟩)]
      exact tab_mem h.2 e
theorem tab_of {l : List (Addr × Sp)} {f : Addr} {sp : Sp} (h : tab l f = some sp) : (f, sp) ∈ l := by
  unfold tab at h
  obtain ⟨q, hq, rfl⟩ := Option.map_eq_some_iff.mp h
  have h1 := List.mem_of_find?_eq_some hq
  have h2 := List.find?_some (p := fun q : Addr × Sp => decide (q.1 = f)) hq
  have h2 : q.1 = f := of_decide_eq_true h2
  rw [← h2]
  exact h1
theorem rows_some {n : Nat} {k : Dd} (h : areRows (n + 1) k = true) : RowsD k := by
  obtain ⟨l, e, hl⟩ := rows_are h
  exact ⟨l, e, fun q hq => by obtain ⟨m, e, hm⟩ := hl q hq; exact ⟨m, e, by omega⟩⟩
theorem held_up {P : Program} {w : World} {K : PySem.W.Frag} {mg : Str → Option Value} {base : Heap} {j k : Nat} {f : Addr} {sp : Sp} (h : Held P w K mg base j f sp) (hj : j ≤ k) : Held P w K mg base k f sp := by
  obtain ⟨fd, ps, F, kp, b⟩ := h
  exact ⟨fd, ps, F.mono hj, kp, b⟩
theorem cal_up {P : Program} {w : World} {K : PySem.W.Frag} {mg : Str → Option Value} {base : Heap} {j k : Nat} {x : Str} {sp : Sp} (c : C8.Cal P w K mg base j x sp []) (hj : j ≤ k) : C8.Cal P w K mg base k x sp [] := by
  obtain ⟨f, fd, ps, ds, F, hm, kp, b, d⟩ := c.ex
  exact ⟨f, fd, ps, ds, F.mono hj, hm, kp, b, d⟩
theorem c_unk_all {P : Program} {w : World} {K : PySem.W.Frag} {mg : Str → Option Value} {base : Heap} {fu fm fr : Addr} {du dm dr : FuncData} (T : TxtRw mg) (c_law_first : C8.Cal P w K mg base 1 "_law_first" spFirst []) (c_law_either : C8.Cal P w K mg base 1 "_law_either" spEither [])
    (Fu : Fun K "_law_unknown" "_law_unknown" sUnk fu du) (bu : Binds K du ["body", "scope", "functions"] []) (mu : mg "_law_unknown" = some (.ref fu))
    (Fm : Fun K "_law_unknown_member" "_law_unknown_member" sUMember fm dm) (bm : Binds K dm ["member", "scope", "functions"] []) (mm : mg "_law_unknown_member" = some (.ref fm))
    (Fr : Fun K "_law_unknown_rows" "_law_unknown_rows" sURows fr dr) (br : Binds K dr ["body", "scope", "functions"] []) (mr : mg "_law_unknown_rows" = some (.ref fr)) :
    ∀ n : Nat, C8.Cal P w K mg base (2 * n + 1) "_law_unknown" (spUnk true n) [] ∧ C8.Cal P w K mg base (2 * n + 2) "_law_unknown_member" (spUnk false n) []
  | 0 => ⟨cal_none Fu mu bu fun vs H Q E h => (by obtain ⟨v, k, U, sc, gc, S, gs, _, _, _, h, _⟩ := h; exact h), cal_none Fm mm bm fun vs H Q E h => (by obtain ⟨v, k, U, sc, gc, S, gs, _, _, _, h, _⟩ := h; exact h)⟩
  | n + 1 => by
    obtain ⟨h1, h2⟩ := c_unk_all T c_law_first c_law_either Fu bu mu Fm bm mm Fr br mr n
    exact ⟨c_unk h1 h2 (c_urows T h1 c_law_either Fr br mr) c_law_first c_law_either Fu bu mu, cal_up (c_umember h1 c_law_first Fm bm mm) (by omega)⟩
end Toy

set_option Elab.async false
set_option linter.all false
set_option maxRecDepth 100000
set_option maxHeartbeats 4000000
/-! The last part: what the program's top has left, and the end. -/
namespace Toy
open PySem L2
open PyProof.Rows (envOfC)
theorem all_mk {l : PySem.W.OpenLaw} {w : World} {K : PySem.W.Frag} {h : Heap} {mg : Str → Option Value} {fa : Addr} {f0 f1 f2 f3 f4 f5 f6 f7 f8 f9 f10 f11 f12 f13 f14 f15 f16 f17 f18 f19 f20 f21 f22 f23 f24 f25 f26 f27 f28 f29 f30 f31 f32 f33 f34 f35 f36 f37 f38 f39 f40 f41 f42 f43 f44 f45 f46 f47 f48 f49 f50 f51 : Addr} (X : K.In h) (G : h.Ns mainGlobals mg) (hfa : mg "law" = some (.ref fa))
    {od0 an0 od1 an1 od2 an2 od3 an3 od4 an4 od5 an5 od6 an6 od7 an7 od8 an8 od9 an9 od10 an10 od11 an11 od12 an12 od13 an13 od14 an14 od15 an15 od16 an16 od17 an17 od18 an18 od19 an19 od20 an20 od21 an21 od22 an22 od23 an23 od24 an24 od25 an25 od26 an26 od27 an27 od28 an28 od29 an29 od30 an30 od31 an31 od32 an32 od33 an33 od34 an34 od35 an35 od36 an36 od37 an37 od38 an38 od39 an39 od40 an40 od41 an41 od42 an42 od43 an43 od44 an44 od45 an45 od46 an46 od47 an47 od48 an48 od49 an49 od50 an50 od51 an51 : Option Addr} {sl0 sl1 sl2 sl3 sl4 sl5 sl6 sl7 sl8 sl9 sl10 sl11 sl12 sl13 sl14 sl15 sl16 sl17 sl18 sl19 sl20 sl21 sl22 sl23 sl24 sl25 sl26 sl27 sl28 sl29 sl30 sl31 sl32 sl33 sl34 sl35 sl36 sl37 sl38 sl39 sl40 sl41 sl42 sl43 sl44 sl45 sl46 sl47 sl48 sl49 sl50 sl51 : Array (Option Value)} {oc0 kV0 dc0 pm0 cd0 ct0 oc1 kV1 dc1 pm1 cd1 ct1 oc2 kV2 dc2 pm2 cd2 ct2 oc3 kV3 dc3 pm3 cd3 ct3 oc4 kV4 dc4 pm4 cd4 ct4 oc5 kV5 dc5 pm5 cd5 ct5 oc6 kV6 dc6 pm6 cd6 ct6 oc7 kV7 dc7 pm7 cd7 ct7 oc8 kV8 dc8 pm8 cd8 ct8 oc9 kV9 dc9 pm9 cd9 ct9 oc10 kV10 dc10 pm10 cd10 ct10 oc11 kV11 dc11 pm11 cd11 ct11 oc12 kV12 dc12 pm12 cd12 ct12 oc13 kV13 dc13 pm13 cd13 ct13 oc14 kV14 dc14 pm14 cd14 ct14 oc15 kV15 dc15 pm15 cd15 ct15 oc16 kV16 dc16 pm16 cd16 ct16 oc17 kV17 dc17 pm17 cd17 ct17 oc18 kV18 dc18 pm18 cd18 ct18 oc19 kV19 dc19 pm19 cd19 ct19 oc20 kV20 dc20 pm20 cd20 ct20 oc21 kV21 dc21 pm21 cd21 ct21 oc22 kV22 dc22 pm22 cd22 ct22 oc23 kV23 dc23 pm23 cd23 ct23 oc24 kV24 dc24 pm24 cd24 ct24 oc25 kV25 dc25 pm25 cd25 ct25 oc26 kV26 dc26 pm26 cd26 ct26 oc27 kV27 dc27 pm27 cd27 ct27 oc28 kV28 dc28 pm28 cd28 ct28 oc29 kV29 dc29 pm29 cd29 ct29 oc30 kV30 dc30 pm30 cd30 ct30 oc31 kV31 dc31 pm31 cd31 ct31 oc32 kV32 dc32 pm32 cd32 ct32 oc33 kV33 dc33 pm33 cd33 ct33 oc34 kV34 dc34 pm34 cd34 ct34 oc35 kV35 dc35 pm35 cd35 ct35 oc36 kV36 dc36 pm36 cd36 ct36 oc37 kV37 dc37 pm37 cd37 ct37 oc38 kV38 dc38 pm38 cd38 ct38 oc39 kV39 dc39 pm39 cd39 ct39 oc40 kV40 dc40 pm40 cd40 ct40 oc41 kV41 dc41 pm41 cd41 ct41 oc42 kV42 dc42 pm42 cd42 ct42 oc43 kV43 dc43 pm43 cd43 ct43 oc44 kV44 dc44 pm44 cd44 ct44 oc45 kV45 dc45 pm45 cd45 ct45 oc46 kV46 dc46 pm46 cd46 ct46 oc47 kV47 dc47 pm47 cd47 ct47 oc48 kV48 dc48 pm48 cd48 ct48 oc49 kV49 dc49 pm49 cd49 ct49 oc50 kV50 dc50 pm50 cd50 ct50 oc51 kV51 dc51 pm51 cd51 ct51 : Value}
    {aP aM aC : Addr} {esP esM : Array DictEntry} {nP nM nC : Nat} {ocC : Value} {odC : Option Addr} {itC : Array Value} {slC : Array (Option Value)} {CC CN CBC CBI : Addr} {CU NU fIU : Addr} {nmU qU : Str} {bsU bmU subU : List Value} {snU : List Str} {abU : Bool} {colU : Option Bool} {ddU odIU anIU : Option Addr} {m0U m1U m2U m3U m5U : Option Value} {slIU : Array (Option Value)} {ocIU kVIU dcIU pmIU cdIU ctIU : Value} {CB NB fIB : Addr} {nmB qB : Str} {bsB bmB subB : List Value} {snB : List Str} {abB : Bool} {colB : Option Bool} {ddB odIB anIB : Option Addr} {m0B m1B m2B m3B m5B : Option Value} {slIB : Array (Option Value)} {ocIB kVIB dcIB pmIB cdIB ctIB : Value}
    (a0 : PySem.W.nsIn K mainGlobals "parts_of" = some (some (.ref f0)))
    (l0 : K.lookup f0 = some ⟨oc0, od0, .func (PySem.W.fnOf "parts_of" "parts_of" (defArgs sParts) (defBody sParts) (defScope sParts) .none kV0 dc0 pm0 an0 cd0 ct0), sl0⟩)
    (c0 : PySem.W.codeIn K cd0 "parts_of" = true)
    (k0 : PySem.W.keepIn K (.ref f0) = true)
    (a1 : PySem.W.nsIn K mainGlobals "names_of" = some (some (.ref f1)))
    (l1 : K.lookup f1 = some ⟨oc1, od1, .func (PySem.W.fnOf "names_of" "names_of" (defArgs sNamesOf) (defBody sNamesOf) (defScope sNamesOf) .none kV1 dc1 pm1 an1 cd1 ct1), sl1⟩)
    (c1 : PySem.W.codeIn K cd1 "names_of" = true)
    (k1 : PySem.W.keepIn K (.ref f1) = true)
    (a2 : PySem.W.nsIn K mainGlobals "scopes_of" = some (some (.ref f2)))
    (l2 : K.lookup f2 = some ⟨oc2, od2, .func (PySem.W.fnOf "scopes_of" "scopes_of" (defArgs sScopes) (defBody sScopes) (defScope sScopes) .none kV2 dc2 pm2 an2 cd2 ct2), sl2⟩)
    (c2 : PySem.W.codeIn K cd2 "scopes_of" = true)
    (k2 : PySem.W.keepIn K (.ref f2) = true)
    (a3 : PySem.W.nsIn K mainGlobals "_own_names" = some (some (.ref f3)))
    (l3 : K.lookup f3 = some ⟨oc3, od3, .func (PySem.W.fnOf "_own_names" "_own_names" (defArgs sOwn) (defBody sOwn) (defScope sOwn) .none kV3 dc3 pm3 an3 cd3 ct3), sl3⟩)
    (c3 : PySem.W.codeIn K cd3 "_own_names" = true)
    (k3 : PySem.W.keepIn K (.ref f3) = true)
    (a4 : PySem.W.nsIn K mainGlobals "_default_names" = some (some (.ref f4)))
    (l4 : K.lookup f4 = some ⟨oc4, od4, .func (PySem.W.fnOf "_default_names" "_default_names" (defArgs sNDflt) (defBody sNDflt) (defScope sNDflt) .none kV4 dc4 pm4 an4 cd4 ct4), sl4⟩)
    (c4 : PySem.W.codeIn K cd4 "_default_names" = true)
    (k4 : PySem.W.keepIn K (.ref f4) = true)
    (a5 : PySem.W.nsIn K mainGlobals "_default_parts" = some (some (.ref f5)))
    (l5 : K.lookup f5 = some ⟨oc5, od5, .func (PySem.W.fnOf "_default_parts" "_default_parts" (defArgs sPDflt) (defBody sPDflt) (defScope sPDflt) .none kV5 dc5 pm5 an5 cd5 ct5), sl5⟩)
    (c5 : PySem.W.codeIn K cd5 "_default_parts" = true)
    (k5 : PySem.W.keepIn K (.ref f5) = true)
    (a6 : PySem.W.nsIn K mainGlobals "_lam_body" = some (some (.ref f6)))
    (l6 : K.lookup f6 = some ⟨oc6, od6, .func (PySem.W.fnOf "_lam_body" "_lam_body" (defArgs sPLam) (defBody sPLam) (defScope sPLam) .none kV6 dc6 pm6 an6 cd6 ct6), sl6⟩)
    (c6 : PySem.W.codeIn K cd6 "_lam_body" = true)
    (k6 : PySem.W.keepIn K (.ref f6) = true)
    (a7 : PySem.W.nsIn K mainGlobals "_note_parts" = some (some (.ref f7)))
    (l7 : K.lookup f7 = some ⟨oc7, od7, .func (PySem.W.fnOf "_note_parts" "_note_parts" (defArgs sPNote) (defBody sPNote) (defScope sPNote) .none kV7 dc7 pm7 an7 cd7 ct7), sl7⟩)
    (c7 : PySem.W.codeIn K cd7 "_note_parts" = true)
    (k7 : PySem.W.keepIn K (.ref f7) = true)
    (a8 : PySem.W.nsIn K mainGlobals "_app_parts" = some (some (.ref f8)))
    (l8 : K.lookup f8 = some ⟨oc8, od8, .func (PySem.W.fnOf "_app_parts" "_app_parts" (defArgs sPApp) (defBody sPApp) (defScope sPApp) .none kV8 dc8 pm8 an8 cd8 ct8), sl8⟩)
    (c8 : PySem.W.codeIn K cd8 "_app_parts" = true)
    (k8 : PySem.W.keepIn K (.ref f8) = true)
    (a9 : PySem.W.nsIn K mainGlobals "_later_parts" = some (some (.ref f9)))
    (l9 : K.lookup f9 = some ⟨oc9, od9, .func (PySem.W.fnOf "_later_parts" "_later_parts" (defArgs sPLater) (defBody sPLater) (defScope sPLater) .none kV9 dc9 pm9 an9 cd9 ct9), sl9⟩)
    (c9 : PySem.W.codeIn K cd9 "_later_parts" = true)
    (k9 : PySem.W.keepIn K (.ref f9) = true)
    (a10 : PySem.W.nsIn K mainGlobals "_con_parts" = some (some (.ref f10)))
    (l10 : K.lookup f10 = some ⟨oc10, od10, .func (PySem.W.fnOf "_con_parts" "_con_parts" (defArgs sPCon) (defBody sPCon) (defScope sPCon) .none kV10 dc10 pm10 an10 cd10 ct10), sl10⟩)
    (c10 : PySem.W.codeIn K cd10 "_con_parts" = true)
    (k10 : PySem.W.keepIn K (.ref f10) = true)
    (a11 : PySem.W.nsIn K mainGlobals "_let_parts" = some (some (.ref f11)))
    (l11 : K.lookup f11 = some ⟨oc11, od11, .func (PySem.W.fnOf "_let_parts" "_let_parts" (defArgs sPLet) (defBody sPLet) (defScope sPLet) .none kV11 dc11 pm11 an11 cd11 ct11), sl11⟩)
    (c11 : PySem.W.codeIn K cd11 "_let_parts" = true)
    (k11 : PySem.W.keepIn K (.ref f11) = true)
    (a12 : PySem.W.nsIn K mainGlobals "_choice_parts" = some (some (.ref f12)))
    (l12 : K.lookup f12 = some ⟨oc12, od12, .func (PySem.W.fnOf "_choice_parts" "_choice_parts" (defArgs sPChoice) (defBody sPChoice) (defScope sPChoice) .none kV12 dc12 pm12 an12 cd12 ct12), sl12⟩)
    (c12 : PySem.W.codeIn K cd12 "_choice_parts" = true)
    (k12 : PySem.W.keepIn K (.ref f12) = true)
    (a13 : PySem.W.nsIn K mainGlobals "atoms_of" = some (some (.ref f13)))
    (l13 : K.lookup f13 = some ⟨oc13, od13, .func (PySem.W.fnOf "atoms_of" "atoms_of" (defArgs sAtoms) (defBody sAtoms) (defScope sAtoms) .none kV13 dc13 pm13 an13 cd13 ct13), sl13⟩)
    (c13 : PySem.W.codeIn K cd13 "atoms_of" = true)
    (k13 : PySem.W.keepIn K (.ref f13) = true)
    (a14 : PySem.W.nsIn K mainGlobals "inner_of" = some (some (.ref f14)))
    (l14 : K.lookup f14 = some ⟨oc14, od14, .func (PySem.W.fnOf "inner_of" "inner_of" (defArgs sInnerOf) (defBody sInnerOf) (defScope sInnerOf) .none kV14 dc14 pm14 an14 cd14 ct14), sl14⟩)
    (c14 : PySem.W.codeIn K cd14 "inner_of" = true)
    (k14 : PySem.W.keepIn K (.ref f14) = true)
    (a15 : PySem.W.nsIn K mainGlobals "free_atoms" = some (some (.ref f15)))
    (l15 : K.lookup f15 = some ⟨oc15, od15, .func (PySem.W.fnOf "free_atoms" "free_atoms" (defArgs sFree) (defBody sFree) (defScope sFree) .none kV15 dc15 pm15 an15 cd15 ct15), sl15⟩)
    (c15 : PySem.W.codeIn K cd15 "free_atoms" = true)
    (k15 : PySem.W.keepIn K (.ref f15) = true)
    (a16 : PySem.W.nsIn K mainGlobals "compile_program" = some (some (.ref f16)))
    (l16 : K.lookup f16 = some ⟨oc16, od16, .func (PySem.W.fnOf "compile_program" "compile_program" (defArgs sCompile) (defBody sCompile) (defScope sCompile) .none kV16 dc16 pm16 an16 cd16 ct16), sl16⟩)
    (c16 : PySem.W.codeIn K cd16 "compile_program" = true)
    (k16 : PySem.W.keepIn K (.ref f16) = true)
    (a17 : PySem.W.nsIn K mainGlobals "_body_code" = some (some (.ref f17)))
    (l17 : K.lookup f17 = some ⟨oc17, od17, .func (PySem.W.fnOf "_body_code" "_body_code" (defArgs sBody) (defBody sBody) (defScope sBody) .none kV17 dc17 pm17 an17 cd17 ct17), sl17⟩)
    (c17 : PySem.W.codeIn K cd17 "_body_code" = true)
    (k17 : PySem.W.keepIn K (.ref f17) = true)
    (a18 : PySem.W.nsIn K mainGlobals "_beginning" = some (some (.ref f18)))
    (l18 : K.lookup f18 = some ⟨oc18, od18, .func (PySem.W.fnOf "_beginning" "_beginning" (defArgs sBeginning) (defBody sBeginning) (defScope sBeginning) .none kV18 dc18 pm18 an18 cd18 ct18), sl18⟩)
    (c18 : PySem.W.codeIn K cd18 "_beginning" = true)
    (k18 : PySem.W.keepIn K (.ref f18) = true)
    (a19 : PySem.W.nsIn K mainGlobals "_extended" = some (some (.ref f19)))
    (l19 : K.lookup f19 = some ⟨oc19, od19, .func (PySem.W.fnOf "_extended" "_extended" (defArgs sExtended) (defBody sExtended) (defScope sExtended) .none kV19 dc19 pm19 an19 cd19 ct19), sl19⟩)
    (c19 : PySem.W.codeIn K cd19 "_extended" = true)
    (k19 : PySem.W.keepIn K (.ref f19) = true)
    (a20 : PySem.W.nsIn K mainGlobals "_operands" = some (some (.ref f20)))
    (l20 : K.lookup f20 = some ⟨oc20, od20, .func (PySem.W.fnOf "_operands" "_operands" (defArgs sOperands) (defBody sOperands) (defScope sOperands) .none kV20 dc20 pm20 an20 cd20 ct20), sl20⟩)
    (c20 : PySem.W.codeIn K cd20 "_operands" = true)
    (k20 : PySem.W.keepIn K (.ref f20) = true)
    (a21 : PySem.W.nsIn K mainGlobals "_operand" = some (some (.ref f21)))
    (l21 : K.lookup f21 = some ⟨oc21, od21, .func (PySem.W.fnOf "_operand" "_operand" (defArgs sOperand) (defBody sOperand) (defScope sOperand) .none kV21 dc21 pm21 an21 cd21 ct21), sl21⟩)
    (c21 : PySem.W.codeIn K cd21 "_operand" = true)
    (k21 : PySem.W.keepIn K (.ref f21) = true)
    (a22 : PySem.W.nsIn K mainGlobals "_put_together" = some (some (.ref f22)))
    (l22 : K.lookup f22 = some ⟨oc22, od22, .func (PySem.W.fnOf "_put_together" "_put_together" (defArgs sPut) (defBody sPut) (defScope sPut) .none kV22 dc22 pm22 an22 cd22 ct22), sl22⟩)
    (c22 : PySem.W.codeIn K cd22 "_put_together" = true)
    (k22 : PySem.W.keepIn K (.ref f22) = true)
    (a23 : PySem.W.nsIn K mainGlobals "_make_give" = some (some (.ref f23)))
    (l23 : K.lookup f23 = some ⟨oc23, od23, .func (PySem.W.fnOf "_make_give" "_make_give" (defArgs sMGive) (defBody sMGive) (defScope sMGive) .none kV23 dc23 pm23 an23 cd23 ct23), sl23⟩)
    (c23 : PySem.W.codeIn K cd23 "_make_give" = true)
    (k23 : PySem.W.keepIn K (.ref f23) = true)
    (a24 : PySem.W.nsIn K mainGlobals "_make_call" = some (some (.ref f24)))
    (l24 : K.lookup f24 = some ⟨oc24, od24, .func (PySem.W.fnOf "_make_call" "_make_call" (defArgs sMCall) (defBody sMCall) (defScope sMCall) .none kV24 dc24 pm24 an24 cd24 ct24), sl24⟩)
    (c24 : PySem.W.codeIn K cd24 "_make_call" = true)
    (k24 : PySem.W.keepIn K (.ref f24) = true)
    (a25 : PySem.W.nsIn K mainGlobals "_make_con" = some (some (.ref f25)))
    (l25 : K.lookup f25 = some ⟨oc25, od25, .func (PySem.W.fnOf "_make_con" "_make_con" (defArgs sMCon) (defBody sMCon) (defScope sMCon) .none kV25 dc25 pm25 an25 cd25 ct25), sl25⟩)
    (c25 : PySem.W.codeIn K cd25 "_make_con" = true)
    (k25 : PySem.W.keepIn K (.ref f25) = true)
    (a26 : PySem.W.nsIn K mainGlobals "_make_prim" = some (some (.ref f26)))
    (l26 : K.lookup f26 = some ⟨oc26, od26, .func (PySem.W.fnOf "_make_prim" "_make_prim" (defArgs sMPrim) (defBody sMPrim) (defScope sMPrim) .none kV26 dc26 pm26 an26 cd26 ct26), sl26⟩)
    (c26 : PySem.W.codeIn K cd26 "_make_prim" = true)
    (k26 : PySem.W.keepIn K (.ref f26) = true)
    (a27 : PySem.W.nsIn K mainGlobals "_make_let" = some (some (.ref f27)))
    (l27 : K.lookup f27 = some ⟨oc27, od27, .func (PySem.W.fnOf "_make_let" "_make_let" (defArgs sMLet) (defBody sMLet) (defScope sMLet) .none kV27 dc27 pm27 an27 cd27 ct27), sl27⟩)
    (c27 : PySem.W.codeIn K cd27 "_make_let" = true)
    (k27 : PySem.W.keepIn K (.ref f27) = true)
    (a28 : PySem.W.nsIn K mainGlobals "_make_seq" = some (some (.ref f28)))
    (l28 : K.lookup f28 = some ⟨oc28, od28, .func (PySem.W.fnOf "_make_seq" "_make_seq" (defArgs sMSeq) (defBody sMSeq) (defScope sMSeq) .none kV28 dc28 pm28 an28 cd28 ct28), sl28⟩)
    (c28 : PySem.W.codeIn K cd28 "_make_seq" = true)
    (k28 : PySem.W.keepIn K (.ref f28) = true)
    (a29 : PySem.W.nsIn K mainGlobals "_make_case" = some (some (.ref f29)))
    (l29 : K.lookup f29 = some ⟨oc29, od29, .func (PySem.W.fnOf "_make_case" "_make_case" (defArgs sMCase) (defBody sMCase) (defScope sMCase) .none kV29 dc29 pm29 an29 cd29 ct29), sl29⟩)
    (c29 : PySem.W.codeIn K cd29 "_make_case" = true)
    (k29 : PySem.W.keepIn K (.ref f29) = true)
    (a30 : PySem.W.nsIn K mainGlobals "_make_pick" = some (some (.ref f30)))
    (l30 : K.lookup f30 = some ⟨oc30, od30, .func (PySem.W.fnOf "_make_pick" "_make_pick" (defArgs sMPick) (defBody sMPick) (defScope sMPick) .none kV30 dc30 pm30 an30 cd30 ct30), sl30⟩)
    (c30 : PySem.W.codeIn K cd30 "_make_pick" = true)
    (k30 : PySem.W.keepIn K (.ref f30) = true)
    (a31 : PySem.W.nsIn K mainGlobals "_make_note" = some (some (.ref f31)))
    (l31 : K.lookup f31 = some ⟨oc31, od31, .func (PySem.W.fnOf "_make_note" "_make_note" (defArgs sMNote) (defBody sMNote) (defScope sMNote) .none kV31 dc31 pm31 an31 cd31 ct31), sl31⟩)
    (c31 : PySem.W.codeIn K cd31 "_make_note" = true)
    (k31 : PySem.W.keepIn K (.ref f31) = true)
    (a32 : PySem.W.nsIn K mainGlobals "_make_later" = some (some (.ref f32)))
    (l32 : K.lookup f32 = some ⟨oc32, od32, .func (PySem.W.fnOf "_make_later" "_make_later" (defArgs sMLater) (defBody sMLater) (defScope sMLater) .none kV32 dc32 pm32 an32 cd32 ct32), sl32⟩)
    (c32 : PySem.W.codeIn K cd32 "_make_later" = true)
    (k32 : PySem.W.keepIn K (.ref f32) = true)
    (a33 : PySem.W.nsIn K mainGlobals "_make_part" = some (some (.ref f33)))
    (l33 : K.lookup f33 = some ⟨oc33, od33, .func (PySem.W.fnOf "_make_part" "_make_part" (defArgs sMPart) (defBody sMPart) (defScope sMPart) .none kV33 dc33 pm33 an33 cd33 ct33), sl33⟩)
    (c33 : PySem.W.codeIn K cd33 "_make_part" = true)
    (k33 : PySem.W.keepIn K (.ref f33) = true)
    (a34 : PySem.W.nsIn K mainGlobals "_law_draws" = some (some (.ref f34)))
    (l34 : K.lookup f34 = some ⟨oc34, od34, .func (PySem.W.fnOf "_law_draws" "_law_draws" (defArgs sDraws) (defBody sDraws) (defScope sDraws) .none kV34 dc34 pm34 an34 cd34 ct34), sl34⟩)
    (c34 : PySem.W.codeIn K cd34 "_law_draws" = true)
    (k34 : PySem.W.keepIn K (.ref f34) = true)
    (a35 : PySem.W.nsIn K mainGlobals "_law_next" = some (some (.ref f35)))
    (l35 : K.lookup f35 = some ⟨oc35, od35, .func (PySem.W.fnOf "_law_next" "_law_next" (defArgs sNext) (defBody sNext) (defScope sNext) .none kV35 dc35 pm35 an35 cd35 ct35), sl35⟩)
    (c35 : PySem.W.codeIn K cd35 "_law_next" = true)
    (k35 : PySem.W.keepIn K (.ref f35) = true)
    (a36 : PySem.W.nsIn K mainGlobals "_law_atom" = some (some (.ref f36)))
    (l36 : K.lookup f36 = some ⟨oc36, od36, .func (PySem.W.fnOf "_law_atom" "_law_atom" (defArgs sLAt) (defBody sLAt) (defScope sLAt) .none kV36 dc36 pm36 an36 cd36 ct36), sl36⟩)
    (c36 : PySem.W.codeIn K cd36 "_law_atom" = true)
    (k36 : PySem.W.keepIn K (.ref f36) = true)
    (a37 : PySem.W.nsIn K mainGlobals "_law_atoms" = some (some (.ref f37)))
    (l37 : K.lookup f37 = some ⟨oc37, od37, .func (PySem.W.fnOf "_law_atoms" "_law_atoms" (defArgs sLAts) (defBody sLAts) (defScope sLAts) .none kV37 dc37 pm37 an37 cd37 ct37), sl37⟩)
    (c37 : PySem.W.codeIn K cd37 "_law_atoms" = true)
    (k37 : PySem.W.keepIn K (.ref f37) = true)
    (a38 : PySem.W.nsIn K mainGlobals "_law_fresh" = some (some (.ref f38)))
    (l38 : K.lookup f38 = some ⟨oc38, od38, .func (PySem.W.fnOf "_law_fresh" "_law_fresh" (defArgs sFresh) (defBody sFresh) (defScope sFresh) .none kV38 dc38 pm38 an38 cd38 ct38), sl38⟩)
    (c38 : PySem.W.codeIn K cd38 "_law_fresh" = true)
    (k38 : PySem.W.keepIn K (.ref f38) = true)
    (a39 : PySem.W.nsIn K mainGlobals "_law_names" = some (some (.ref f39)))
    (l39 : K.lookup f39 = some ⟨oc39, od39, .func (PySem.W.fnOf "_law_names" "_law_names" (defArgs sNames) (defBody sNames) (defScope sNames) .none kV39 dc39 pm39 an39 cd39 ct39), sl39⟩)
    (c39 : PySem.W.codeIn K cd39 "_law_names" = true)
    (k39 : PySem.W.keepIn K (.ref f39) = true)
    (a40 : PySem.W.nsIn K mainGlobals "_law_member" = some (some (.ref f40)))
    (l40 : K.lookup f40 = some ⟨oc40, od40, .func (PySem.W.fnOf "_law_member" "_law_member" (defArgs sLMem) (defBody sLMem) (defScope sLMem) .none kV40 dc40 pm40 an40 cd40 ct40), sl40⟩)
    (c40 : PySem.W.codeIn K cd40 "_law_member" = true)
    (k40 : PySem.W.keepIn K (.ref f40) = true)
    (a41 : PySem.W.nsIn K mainGlobals "_law_default" = some (some (.ref f41)))
    (l41 : K.lookup f41 = some ⟨oc41, od41, .func (PySem.W.fnOf "_law_default" "_law_default" (defArgs sLDef) (defBody sLDef) (defScope sLDef) .none kV41 dc41 pm41 an41 cd41 ct41), sl41⟩)
    (c41 : PySem.W.codeIn K cd41 "_law_default" = true)
    (k41 : PySem.W.keepIn K (.ref f41) = true)
    (a42 : PySem.W.nsIn K mainGlobals "_law_choice" = some (some (.ref f42)))
    (l42 : K.lookup f42 = some ⟨oc42, od42, .func (PySem.W.fnOf "_law_choice" "_law_choice" (defArgs sLCh) (defBody sLCh) (defScope sLCh) .none kV42 dc42 pm42 an42 cd42 ct42), sl42⟩)
    (c42 : PySem.W.codeIn K cd42 "_law_choice" = true)
    (k42 : PySem.W.keepIn K (.ref f42) = true)
    (a43 : PySem.W.nsIn K mainGlobals "_law_body" = some (some (.ref f43)))
    (l43 : K.lookup f43 = some ⟨oc43, od43, .func (PySem.W.fnOf "_law_body" "_law_body" (defArgs sLBody) (defBody sLBody) (defScope sLBody) .none kV43 dc43 pm43 an43 cd43 ct43), sl43⟩)
    (c43 : PySem.W.codeIn K cd43 "_law_body" = true)
    (k43 : PySem.W.keepIn K (.ref f43) = true)
    (a44 : PySem.W.nsIn K mainGlobals "_law_first" = some (some (.ref f44)))
    (l44 : K.lookup f44 = some ⟨oc44, od44, .func (PySem.W.fnOf "_law_first" "_law_first" (defArgs sFirst) (defBody sFirst) (defScope sFirst) .none kV44 dc44 pm44 an44 cd44 ct44), sl44⟩)
    (c44 : PySem.W.codeIn K cd44 "_law_first" = true)
    (k44 : PySem.W.keepIn K (.ref f44) = true)
    (a45 : PySem.W.nsIn K mainGlobals "_law_either" = some (some (.ref f45)))
    (l45 : K.lookup f45 = some ⟨oc45, od45, .func (PySem.W.fnOf "_law_either" "_law_either" (defArgs sEither) (defBody sEither) (defScope sEither) .none kV45 dc45 pm45 an45 cd45 ct45), sl45⟩)
    (c45 : PySem.W.codeIn K cd45 "_law_either" = true)
    (k45 : PySem.W.keepIn K (.ref f45) = true)
    (a46 : PySem.W.nsIn K mainGlobals "_law_unknown_member" = some (some (.ref f46)))
    (l46 : K.lookup f46 = some ⟨oc46, od46, .func (PySem.W.fnOf "_law_unknown_member" "_law_unknown_member" (defArgs sUMember) (defBody sUMember) (defScope sUMember) .none kV46 dc46 pm46 an46 cd46 ct46), sl46⟩)
    (c46 : PySem.W.codeIn K cd46 "_law_unknown_member" = true)
    (k46 : PySem.W.keepIn K (.ref f46) = true)
    (a47 : PySem.W.nsIn K mainGlobals "_law_unknown_rows" = some (some (.ref f47)))
    (l47 : K.lookup f47 = some ⟨oc47, od47, .func (PySem.W.fnOf "_law_unknown_rows" "_law_unknown_rows" (defArgs sURows) (defBody sURows) (defScope sURows) .none kV47 dc47 pm47 an47 cd47 ct47), sl47⟩)
    (c47 : PySem.W.codeIn K cd47 "_law_unknown_rows" = true)
    (k47 : PySem.W.keepIn K (.ref f47) = true)
    (a48 : PySem.W.nsIn K mainGlobals "_law_unknown" = some (some (.ref f48)))
    (l48 : K.lookup f48 = some ⟨oc48, od48, .func (PySem.W.fnOf "_law_unknown" "_law_unknown" (defArgs sUnk) (defBody sUnk) (defScope sUnk) .none kV48 dc48 pm48 an48 cd48 ct48), sl48⟩)
    (c48 : PySem.W.codeIn K cd48 "_law_unknown" = true)
    (k48 : PySem.W.keepIn K (.ref f48) = true)
    (a49 : PySem.W.nsIn K mainGlobals "_law_expected" = some (some (.ref f49)))
    (l49 : K.lookup f49 = some ⟨oc49, od49, .func (PySem.W.fnOf "_law_expected" "_law_expected" (defArgs sExpected) (defBody sExpected) (defScope sExpected) .none kV49 dc49 pm49 an49 cd49 ct49), sl49⟩)
    (c49 : PySem.W.codeIn K cd49 "_law_expected" = true)
    (k49 : PySem.W.keepIn K (.ref f49) = true)
    (a50 : PySem.W.nsIn K mainGlobals "_law_actual" = some (some (.ref f50)))
    (l50 : K.lookup f50 = some ⟨oc50, od50, .func (PySem.W.fnOf "_law_actual" "_law_actual" (defArgs sActual) (defBody sActual) (defScope sActual) .none kV50 dc50 pm50 an50 cd50 ct50), sl50⟩)
    (c50 : PySem.W.codeIn K cd50 "_law_actual" = true)
    (k50 : PySem.W.keepIn K (.ref f50) = true)
    (a51 : PySem.W.nsIn K mainGlobals "law" = some (some (.ref f51)))
    (l51 : K.lookup f51 = some ⟨oc51, od51, .func (PySem.W.fnOf "law" "law" (defArgs sLaw) (defBody sLaw) (defScope sLaw) .none kV51 dc51 pm51 an51 cd51 ct51), sl51⟩)
    (c51 : PySem.W.codeIn K cd51 "law" = true)
    (k51 : PySem.W.keepIn K (.ref f51) = true)
    (gtC : PySem.W.nsIn K mainGlobals "CORE_WORDS" = some (some (.ref aC)))
    (ltC : K.lookup aC = some ⟨ocC, odC, .seq itC nC, slC⟩)
    (ctC : ocC = .type "tuple")
    (vtC : strsAre coreWords itC.toList = true)
    (gdP : PySem.W.nsIn K mainGlobals "PARTS" = some (some (.ref aP)))
    (ldP : K.lookup aP = some ⟨.type "dict", none, .dict esP nP, #[]⟩)
    (kdP : PySem.W.KeysLit w.params esP.toList)
    (sdP : (aP == sysModules) = false)
    (vdP : keysAre esP.toList pwords = true)
    (wPapp : PySem.W.nsIn K aP "app" = some (some (.ref f8)))
    (wPlam : PySem.W.nsIn K aP "lam" = some (some (.ref f6)))
    (wPlet : PySem.W.nsIn K aP "let" = some (some (.ref f11)))
    (wPseq : PySem.W.nsIn K aP "seq" = some (some (.ref f9)))
    (wPcon : PySem.W.nsIn K aP "con" = some (some (.ref f10)))
    (wPcase : PySem.W.nsIn K aP "case" = some (some (.ref f12)))
    (wPpick : PySem.W.nsIn K aP "pick" = some (some (.ref f12)))
    (wPprim : PySem.W.nsIn K aP "prim" = some (some (.ref f9)))
    (wPnote : PySem.W.nsIn K aP "note" = some (some (.ref f7)))
    (gdM : PySem.W.nsIn K mainGlobals "MAKERS" = some (some (.ref aM)))
    (ldM : K.lookup aM = some ⟨.type "dict", none, .dict esM nM, #[]⟩)
    (kdM : PySem.W.KeysLit w.params esM.toList)
    (sdM : (aM == sysModules) = false)
    (vdM : keysAre esM.toList thingWords = true)
    (wMatom : PySem.W.nsIn K aM "atom" = some (some (.ref f23)))
    (wMcall : PySem.W.nsIn K aM "call" = some (some (.ref f24)))
    (wMcon : PySem.W.nsIn K aM "con" = some (some (.ref f25)))
    (wMprim : PySem.W.nsIn K aM "prim" = some (some (.ref f26)))
    (wMlet : PySem.W.nsIn K aM "let" = some (some (.ref f27)))
    (wMseq : PySem.W.nsIn K aM "seq" = some (some (.ref f28)))
    (wMcase : PySem.W.nsIn K aM "case" = some (some (.ref f29)))
    (wMpick : PySem.W.nsIn K aM "pick" = some (some (.ref f30)))
    (wMnote : PySem.W.nsIn K aM "note" = some (some (.ref f31)))
    (wMlater : PySem.W.nsIn K aM "later" = some (some (.ref f32)))
    (wMpart : PySem.W.nsIn K aM "part" = some (some (.ref f33)))
    (ndP : ([f8, f6, f11, f9, f10, f12, f7] : List Addr).Nodup)
    (ndM : ([f23, f24, f25, f26, f27, f28, f29, f30, f31, f32, f33] : List Addr).Nodup)
    (klC : PySem.W.nsIn K mainGlobals "CodeError" = some (some (.ref CC)))
    (klN : PySem.W.nsIn K mainGlobals "NeedError" = some (some (.ref CN)))
    (klBC : PySem.W.nsIn K mainGlobals "BadCode" = some (some (.ref CBC)))
    (klBI : PySem.W.nsIn K mainGlobals "BadImage" = some (some (.ref CBI)))
    (rdC : PySem.W.readsIn K CC (.type "type") = true)
    (gaC : PySem.W.specialIn K (.ref CC) "__getattribute__" = some (some (.builtin "type.__getattribute__")))
    (vC : PySem.W.findCls K (.ref CC) (.type "type") "__init__" = some (.val (.builtin "ValueError.__init__")))
    (klU : PySem.W.nsIn K mainGlobals "Unknown" = some (some (.ref CU)))
    (xU : K.lookup CU = some (PySem.excClassObj nmU qU CU NU bsU bmU true snU subU abU colU ddU m0U m1U m2U m3U m5U "ValueError.__new__"))
    (rU : PySem.HandSPX.refsVE bmU = true)
    (saU : PySem.W.findIn K (.ref CU) "__setattr__" = some (some (.builtin "object.__setattr__")))
    (exU : PySem.W.subIn K (.ref CU) (.type "BaseException") = some true)
    (tyU : PySem.W.typeIn K (.ref CU) = some (.type "type"))
    (kkU : PySem.W.keepIn K (.ref CU) = true)
    (iU : PySem.W.findIn K (.ref CU) "__init__" = some (some (.ref fIU)))
    (noU : PySem.W.findIn K (.ref CU) "name" = some none)
    (gaU : PySem.W.findIn K (.ref CU) "__getattribute__" = some (some (.builtin "BaseException.__getattribute__")))
    (ggU : PySem.W.findIn K (.ref CU) "__getattr__" = some none)
    (hdU : PySem.W.hasDictIn K CU = true)
    (clU : PySem.W.findIn K (.ref CU) "__class__" = some (some (.builtin "object.__class__")))
    (moU : PySem.W.mroIn K CU (.type "object") = some true)
    (tIU : PySem.W.typeIn K (.ref fIU) = some (.type "function"))
    (lIU : K.lookup fIU = some ⟨ocIU, odIU, .func (PySem.W.fnOf "__init__" "Unknown.__init__" (defArgs sUnkI) (defBody sUnkI) (defScope sUnkI) .none kVIU dcIU pmIU anIU cdIU ctIU), slIU⟩)
    (cIU : PySem.W.codeIn K cdIU "Unknown.__init__" = true)
    (kIU : PySem.W.keepIn K (.ref fIU) = true)
    (klB : PySem.W.nsIn K mainGlobals "BadArity" = some (some (.ref CB)))
    (xB : K.lookup CB = some (PySem.excClassObj nmB qB CB NB bsB bmB true snB subB abB colB ddB m0B m1B m2B m3B m5B "ValueError.__new__"))
    (rB : PySem.HandSPX.refsVE bmB = true)
    (saB : PySem.W.findIn K (.ref CB) "__setattr__" = some (some (.builtin "object.__setattr__")))
    (exB : PySem.W.subIn K (.ref CB) (.type "BaseException") = some true)
    (tyB : PySem.W.typeIn K (.ref CB) = some (.type "type"))
    (kkB : PySem.W.keepIn K (.ref CB) = true)
    (iB : PySem.W.findIn K (.ref CB) "__init__" = some (some (.ref fIB)))
    (noB : PySem.W.findIn K (.ref CB) "name" = some none)
    (gaB : PySem.W.findIn K (.ref CB) "__getattribute__" = some (some (.builtin "BaseException.__getattribute__")))
    (ggB : PySem.W.findIn K (.ref CB) "__getattr__" = some none)
    (hdB : PySem.W.hasDictIn K CB = true)
    (clB : PySem.W.findIn K (.ref CB) "__class__" = some (some (.builtin "object.__class__")))
    (moB : PySem.W.mroIn K CB (.type "object") = some true)
    (tIB : PySem.W.typeIn K (.ref fIB) = some (.type "function"))
    (lIB : K.lookup fIB = some ⟨ocIB, odIB, .func (PySem.W.fnOf "__init__" "BadArity.__init__" (defArgs sBarI) (defBody sBarI) (defScope sBarI) .none kVIB dcIB pmIB anIB cdIB ctIB), slIB⟩)
    (cIB : PySem.W.codeIn K cdIB "BadArity.__init__" = true)
    (kIB : PySem.W.keepIn K (.ref fIB) = true)
    (sn : PySem.W.specialIn K (.builtin "object.__class__") "__get__" = some (some (.builtin "getset_descriptor.__get__")))
    (tk : PySem.W.takesIn K (.builtin "object.__class__") = some true)
    (sUU : PySem.W.subIn K (.ref CU) (.ref CU) = some true)
    (sBU : PySem.W.subIn K (.ref CB) (.ref CU) = some false)
    (sBB : PySem.W.subIn K (.ref CB) (.ref CB) = some true)
    (qUB : PySem.W.kitOne K (.ref CU) (.ref CB) = some false)
    (qUBC : PySem.W.kitOne K (.ref CU) (.ref CBC) = some false)
    (qUC : PySem.W.kitOne K (.ref CU) (.ref CC) = some true)
    (qUN : PySem.W.kitOne K (.ref CU) (.ref CN) = some true)
    (qBBI : PySem.W.kitOne K (.ref CB) (.ref CBI) = some false)
    (qBC : PySem.W.kitOne K (.ref CB) (.ref CC) = some true)
    (qBN : PySem.W.kitOne K (.ref CB) (.ref CN) = some true)
    (zlen : PySem.W.nsIn K mainGlobals "len" = some none)
    (zint : PySem.W.nsIn K mainGlobals "int" = some none)
    (zrange : PySem.W.nsIn K mainGlobals "range" = some none)
    (zabs : PySem.W.nsIn K mainGlobals "abs" = some none)
    (zisinstance : PySem.W.nsIn K mainGlobals "isinstance" = some none)
    (zstr : PySem.W.nsIn K mainGlobals "str" = some none)
    (zbool : PySem.W.nsIn K mainGlobals "bool" = some none)
    (ztuple : PySem.W.nsIn K mainGlobals "tuple" = some none)
    (zlist : PySem.W.nsIn K mainGlobals "list" = some none)
    (zzip : PySem.W.nsIn K mainGlobals "zip" = some none)
    (zsorted : PySem.W.nsIn K mainGlobals "sorted" = some none)
    (zsum : PySem.W.nsIn K mainGlobals "sum" = some none)
    (zdict : PySem.W.nsIn K mainGlobals "dict" = some none)
    (zenumerate : PySem.W.nsIn K mainGlobals "enumerate" = some none) :
    ∃ fd : FuncData, (∀ (s : Shared) (v : Value), BindsTo s fd ⟨[v], []⟩ [("script", v)]) ∧ ∀ base : Heap, K.In base → base.Ns mainGlobals mg → FnOk l.prog w K mg base CX0 21 fa fd ["script"] (spLaw K) := by
  have e := hfa.symm.trans (PySem.W.mg_of X G a51)
  cases e
  have nlen := PySem.W.mg_none_of X G zlen
  have nint := PySem.W.mg_none_of X G zint
  have nrange := PySem.W.mg_none_of X G zrange
  have nabs := PySem.W.mg_none_of X G zabs
  have nisinstance := PySem.W.mg_none_of X G zisinstance
  have nstr := PySem.W.mg_none_of X G zstr
  have nbool := PySem.W.mg_none_of X G zbool
  have ntuple := PySem.W.mg_none_of X G ztuple
  have nlist := PySem.W.mg_none_of X G zlist
  have nzip := PySem.W.mg_none_of X G zzip
  have nsorted := PySem.W.mg_none_of X G zsorted
  have nsum := PySem.W.mg_none_of X G zsum
  have ndict := PySem.W.mg_none_of X G zdict
  have nenumerate := PySem.W.mg_none_of X G zenumerate
  have FParts := fun_mk (st := sParts) l0 c0 k0
  have bParts := FParts.binds (ps := ["term"]) fun _ _ _ _ _ _ us hl => match us, hl with | [_], _ => rfl
  have mParts := PySem.W.mg_of X G a0
  have FNamesOf := fun_mk (st := sNamesOf) l1 c1 k1
  have bNamesOf := FNamesOf.binds (ps := ["term"]) fun _ _ _ _ _ _ us hl => match us, hl with | [_], _ => rfl
  have mNamesOf := PySem.W.mg_of X G a1
  have FScopes := fun_mk (st := sScopes) l2 c2 k2
  have bScopes := FScopes.binds (ps := ["term"]) fun _ _ _ _ _ _ us hl => match us, hl with | [_], _ => rfl
  have mScopes := PySem.W.mg_of X G a2
  have FOwn := fun_mk (st := sOwn) l3 c3 k3
  have bOwn := FOwn.binds (ps := ["term"]) fun _ _ _ _ _ _ us hl => match us, hl with | [_], _ => rfl
  have mOwn := PySem.W.mg_of X G a3
  have FNDflt := fun_mk (st := sNDflt) l4 c4 k4
  have bNDflt := FNDflt.binds (ps := ["term"]) fun _ _ _ _ _ _ us hl => match us, hl with | [_], _ => rfl
  have mNDflt := PySem.W.mg_of X G a4
  have FPDflt := fun_mk (st := sPDflt) l5 c5 k5
  have bPDflt := FPDflt.binds (ps := ["term"]) fun _ _ _ _ _ _ us hl => match us, hl with | [_], _ => rfl
  have mPDflt := PySem.W.mg_of X G a5
  have FPLam := fun_mk (st := sPLam) l6 c6 k6
  have bPLam := FPLam.binds (ps := ["term"]) fun _ _ _ _ _ _ us hl => match us, hl with | [_], _ => rfl
  have mPLam := PySem.W.mg_of X G a6
  have FPNote := fun_mk (st := sPNote) l7 c7 k7
  have bPNote := FPNote.binds (ps := ["term"]) fun _ _ _ _ _ _ us hl => match us, hl with | [_], _ => rfl
  have mPNote := PySem.W.mg_of X G a7
  have FPApp := fun_mk (st := sPApp) l8 c8 k8
  have bPApp := FPApp.binds (ps := ["term"]) fun _ _ _ _ _ _ us hl => match us, hl with | [_], _ => rfl
  have mPApp := PySem.W.mg_of X G a8
  have FPLater := fun_mk (st := sPLater) l9 c9 k9
  have bPLater := FPLater.binds (ps := ["term"]) fun _ _ _ _ _ _ us hl => match us, hl with | [_], _ => rfl
  have mPLater := PySem.W.mg_of X G a9
  have FPCon := fun_mk (st := sPCon) l10 c10 k10
  have bPCon := FPCon.binds (ps := ["term"]) fun _ _ _ _ _ _ us hl => match us, hl with | [_], _ => rfl
  have mPCon := PySem.W.mg_of X G a10
  have FPLet := fun_mk (st := sPLet) l11 c11 k11
  have bPLet := FPLet.binds (ps := ["term"]) fun _ _ _ _ _ _ us hl => match us, hl with | [_], _ => rfl
  have mPLet := PySem.W.mg_of X G a11
  have FPChoice := fun_mk (st := sPChoice) l12 c12 k12
  have bPChoice := FPChoice.binds (ps := ["term"]) fun _ _ _ _ _ _ us hl => match us, hl with | [_], _ => rfl
  have mPChoice := PySem.W.mg_of X G a12
  have FAtoms := fun_mk (st := sAtoms) l13 c13 k13
  have bAtoms := FAtoms.binds (ps := ["thing"]) fun _ _ _ _ _ _ us hl => match us, hl with | [_], _ => rfl
  have mAtoms := PySem.W.mg_of X G a13
  have FInnerOf := fun_mk (st := sInnerOf) l14 c14 k14
  have bInnerOf := FInnerOf.binds (ps := ["thing"]) fun _ _ _ _ _ _ us hl => match us, hl with | [_], _ => rfl
  have mInnerOf := PySem.W.mg_of X G a14
  have FFree := fun_mk (st := sFree) l15 c15 k15
  have bFree := FFree.binds (ps := ["thing"]) fun _ _ _ _ _ _ us hl => match us, hl with | [_], _ => rfl
  have mFree := PySem.W.mg_of X G a15
  have FCompile := fun_mk (st := sCompile) l16 c16 k16
  have bCompile := FCompile.binds (ps := ["functions", "main"]) fun _ _ _ _ _ _ us hl => match us, hl with | [_, _], _ => rfl
  have mCompile := PySem.W.mg_of X G a16
  have FBody := fun_mk (st := sBody) l17 c17 k17
  have bBody := FBody.binds (ps := ["body", "params", "indexes"]) fun _ _ _ _ _ _ us hl => match us, hl with | [_, _, _], _ => rfl
  have mBody := PySem.W.mg_of X G a17
  have FBeginning := fun_mk (st := sBeginning) l18 c18 k18
  have bBeginning := FBeginning.binds (ps := ["names"]) fun _ _ _ _ _ _ us hl => match us, hl with | [_], _ => rfl
  have mBeginning := PySem.W.mg_of X G a18
  have FExtended := fun_mk (st := sExtended) l19 c19 k19
  have bExtended := FExtended.binds (ps := ["scope", "names"]) fun _ _ _ _ _ _ us hl => match us, hl with | [_, _], _ => rfl
  have mExtended := PySem.W.mg_of X G a19
  have FOperands := fun_mk (st := sOperands) l20 c20 k20
  have bOperands := FOperands.binds (ps := ["thing", "scope", "indexes"]) fun _ _ _ _ _ _ us hl => match us, hl with | [_, _, _], _ => rfl
  have mOperands := PySem.W.mg_of X G a20
  have FOperand := fun_mk (st := sOperand) l21 c21 k21
  have bOperand := FOperand.binds (ps := ["atom", "slots", "indexes"]) fun _ _ _ _ _ _ us hl => match us, hl with | [_, _, _], _ => rfl
  have mOperand := PySem.W.mg_of X G a21
  have FPut := fun_mk (st := sPut) l22 c22 k22
  have bPut := FPut.binds (ps := ["thing", "operands", "inner"]) fun _ _ _ _ _ _ us hl => match us, hl with | [_, _, _], _ => rfl
  have mPut := PySem.W.mg_of X G a22
  have FMGive := fun_mk (st := sMGive) l23 c23 k23
  have bMGive := FMGive.binds (ps := ["thing", "operands", "inner"]) fun _ _ _ _ _ _ us hl => match us, hl with | [_, _, _], _ => rfl
  have mMGive := PySem.W.mg_of X G a23
  have FMCall := fun_mk (st := sMCall) l24 c24 k24
  have bMCall := FMCall.binds (ps := ["thing", "operands", "inner"]) fun _ _ _ _ _ _ us hl => match us, hl with | [_, _, _], _ => rfl
  have mMCall := PySem.W.mg_of X G a24
  have FMCon := fun_mk (st := sMCon) l25 c25 k25
  have bMCon := FMCon.binds (ps := ["thing", "operands", "inner"]) fun _ _ _ _ _ _ us hl => match us, hl with | [_, _, _], _ => rfl
  have mMCon := PySem.W.mg_of X G a25
  have FMPrim := fun_mk (st := sMPrim) l26 c26 k26
  have bMPrim := FMPrim.binds (ps := ["thing", "operands", "inner"]) fun _ _ _ _ _ _ us hl => match us, hl with | [_, _, _], _ => rfl
  have mMPrim := PySem.W.mg_of X G a26
  have FMLet := fun_mk (st := sMLet) l27 c27 k27
  have bMLet := FMLet.binds (ps := ["thing", "operands", "inner"]) fun _ _ _ _ _ _ us hl => match us, hl with | [_, _, _], _ => rfl
  have mMLet := PySem.W.mg_of X G a27
  have FMSeq := fun_mk (st := sMSeq) l28 c28 k28
  have bMSeq := FMSeq.binds (ps := ["thing", "operands", "inner"]) fun _ _ _ _ _ _ us hl => match us, hl with | [_, _, _], _ => rfl
  have mMSeq := PySem.W.mg_of X G a28
  have FMCase := fun_mk (st := sMCase) l29 c29 k29
  have bMCase := FMCase.binds (ps := ["thing", "operands", "inner"]) fun _ _ _ _ _ _ us hl => match us, hl with | [_, _, _], _ => rfl
  have mMCase := PySem.W.mg_of X G a29
  have FMPick := fun_mk (st := sMPick) l30 c30 k30
  have bMPick := FMPick.binds (ps := ["thing", "operands", "inner"]) fun _ _ _ _ _ _ us hl => match us, hl with | [_, _, _], _ => rfl
  have mMPick := PySem.W.mg_of X G a30
  have FMNote := fun_mk (st := sMNote) l31 c31 k31
  have bMNote := FMNote.binds (ps := ["thing", "operands", "inner"]) fun _ _ _ _ _ _ us hl => match us, hl with | [_, _, _], _ => rfl
  have mMNote := PySem.W.mg_of X G a31
  have FMLater := fun_mk (st := sMLater) l32 c32 k32
  have bMLater := FMLater.binds (ps := ["thing", "operands", "inner"]) fun _ _ _ _ _ _ us hl => match us, hl with | [_, _, _], _ => rfl
  have mMLater := PySem.W.mg_of X G a32
  have FMPart := fun_mk (st := sMPart) l33 c33 k33
  have bMPart := FMPart.binds (ps := ["thing", "operands", "inner"]) fun _ _ _ _ _ _ us hl => match us, hl with | [_, _, _], _ => rfl
  have mMPart := PySem.W.mg_of X G a33
  have FDraws := fun_mk (st := sDraws) l34 c34 k34
  have bDraws := FDraws.binds (ps := ["script", "many"]) fun _ _ _ _ _ _ us hl => match us, hl with | [_, _], _ => rfl
  have mDraws := PySem.W.mg_of X G a34
  have FNext := fun_mk (st := sNext) l35 c35 k35
  have bNext := FNext.binds (ps := ["w", "many"]) fun _ _ _ _ _ _ us hl => match us, hl with | [_, _], _ => rfl
  have mNext := PySem.W.mg_of X G a35
  have FLAt := fun_mk (st := sLAt) l36 c36 k36
  have bLAt := FLAt.binds (ps := ["w", "scope", "functions"]) fun _ _ _ _ _ _ us hl => match us, hl with | [_, _, _], _ => rfl
  have mLAt := PySem.W.mg_of X G a36
  have FLAts := fun_mk (st := sLAts) l37 c37 k37
  have bLAts := FLAts.binds (ps := ["w", "scope", "functions", "many"]) fun _ _ _ _ _ _ us hl => match us, hl with | [_, _, _, _], _ => rfl
  have mLAts := PySem.W.mg_of X G a37
  have FFresh := fun_mk (st := sFresh) l38 c38 k38
  have bFresh := FFresh.binds (ps := ["w"]) fun _ _ _ _ _ _ us hl => match us, hl with | [_], _ => rfl
  have mFresh := PySem.W.mg_of X G a38
  have FNames := fun_mk (st := sNames) l39 c39 k39
  have bNames := FNames.binds (ps := ["w", "many"]) fun _ _ _ _ _ _ us hl => match us, hl with | [_, _], _ => rfl
  have mNames := PySem.W.mg_of X G a39
  have FLMem := fun_mk (st := sLMem) l40 c40 k40
  have bLMem := FLMem.binds (ps := ["w", "depth", "scope", "functions"]) fun _ _ _ _ _ _ us hl => match us, hl with | [_, _, _, _], _ => rfl
  have mLMem := PySem.W.mg_of X G a40
  have FLDef := fun_mk (st := sLDef) l41 c41 k41
  have bLDef := FLDef.binds (ps := ["w", "depth", "scope", "functions"]) fun _ _ _ _ _ _ us hl => match us, hl with | [_, _, _, _], _ => rfl
  have mLDef := PySem.W.mg_of X G a41
  have FLCh := fun_mk (st := sLCh) l42 c42 k42
  have bLCh := FLCh.binds (ps := ["w", "depth", "scope", "functions", "kind"]) fun _ _ _ _ _ _ us hl => match us, hl with | [_, _, _, _, _], _ => rfl
  have mLCh := PySem.W.mg_of X G a42
  have FLBody := fun_mk (st := sLBody) l43 c43 k43
  have bLBody := FLBody.binds (ps := ["w", "depth", "scope", "functions"]) fun _ _ _ _ _ _ us hl => match us, hl with | [_, _, _, _], _ => rfl
  have mLBody := PySem.W.mg_of X G a43
  have FFirst := fun_mk (st := sFirst) l44 c44 k44
  have bFirst := FFirst.binds (ps := ["atoms", "scope"]) fun _ _ _ _ _ _ us hl => match us, hl with | [_, _], _ => rfl
  have mFirst := PySem.W.mg_of X G a44
  have FEither := fun_mk (st := sEither) l45 c45 k45
  have bEither := FEither.binds (ps := ["one", "other"]) fun _ _ _ _ _ _ us hl => match us, hl with | [_, _], _ => rfl
  have mEither := PySem.W.mg_of X G a45
  have FUMember := fun_mk (st := sUMember) l46 c46 k46
  have bUMember := FUMember.binds (ps := ["member", "scope", "functions"]) fun _ _ _ _ _ _ us hl => match us, hl with | [_, _, _], _ => rfl
  have mUMember := PySem.W.mg_of X G a46
  have FURows := fun_mk (st := sURows) l47 c47 k47
  have bURows := FURows.binds (ps := ["body", "scope", "functions"]) fun _ _ _ _ _ _ us hl => match us, hl with | [_, _, _], _ => rfl
  have mURows := PySem.W.mg_of X G a47
  have FUnk := fun_mk (st := sUnk) l48 c48 k48
  have bUnk := FUnk.binds (ps := ["body", "scope", "functions"]) fun _ _ _ _ _ _ us hl => match us, hl with | [_, _, _], _ => rfl
  have mUnk := PySem.W.mg_of X G a48
  have FExpected := fun_mk (st := sExpected) l49 c49 k49
  have bExpected := FExpected.binds (ps := ["functions", "main"]) fun _ _ _ _ _ _ us hl => match us, hl with | [_, _], _ => rfl
  have mExpected := PySem.W.mg_of X G a49
  have FActual := fun_mk (st := sActual) l50 c50 k50
  have bActual := FActual.binds (ps := ["functions", "main"]) fun _ _ _ _ _ _ us hl => match us, hl with | [_, _], _ => rfl
  have mActual := PySem.W.mg_of X G a50
  have FLaw := fun_mk (st := sLaw) l51 c51 k51
  have bLaw := FLaw.binds (ps := ["script"]) fun _ _ _ _ _ _ us hl => match us, hl with | [_], _ => rfl
  have mLaw := PySem.W.mg_of X G a51
  refine ⟨PySem.W.fnOf "law" "law" (defArgs sLaw) (defBody sLaw) (defScope sLaw) .none kV51 dc51 pm51 an51 cd51 ct51, fun s v => .of_eq rfl, fun base _ _ => ?_⟩
  have TD : TxtD mg := ⟨nlen, nint, nrange, nabs⟩
  have CPDflt := c_PDflt (P := l.prog) (w := w) (base := base)  FPDflt bPDflt mPDflt
  have CPLam := c_PLam (P := l.prog) (w := w) (base := base)  FPLam bPLam mPLam
  have CPNote := c_PNote (P := l.prog) (w := w) (base := base)  FPNote bPNote mPNote
  have CPApp := c_PApp (P := l.prog) (w := w) (base := base)  FPApp bPApp mPApp
  have CPLater := c_PLater (P := l.prog) (w := w) (base := base)  FPLater bPLater mPLater
  have CPCon := c_PCon (P := l.prog) (w := w) (base := base)  FPCon bPCon mPCon
  have CPLet := c_PLet (P := l.prog) (w := w) (base := base)  FPLet bPLet mPLet
  have CPChoice := c_PChoice (P := l.prog) (w := w) (base := base) CPDflt FPChoice bPChoice mPChoice
  have ndP2 : (([(f8, spPart (fun r => r.length = 2) fun r => r), (f6, spPart (fun r => r.length = 2) fun r => [arg 1 r]), (f11, spPart (fun r => r.length = 2 ∧ PairsD (arg 0 r)) gLet), (f9, spPart (fun r => r.length = 3) fun r => r.drop 1), (f10, spPart (fun r => r.length = 2 ∧ isTup (arg 1 r) = true) fun r => tl (arg 1 r)), (f12, spPart (fun r => r.length = 3 ∧ RowsD (arg 1 r) ∧ isDflt (arg 2 r) = true) gChoice), (f7, spPart (fun r => r.length = 2) fun r => [arg 1 r])] : List (Addr × Sp)).map (·.1)).Nodup := ndP
  have mP : ∀ z ∈ pwords, ∃ f C g, PySem.W.nsIn K aP z = some (some (.ref f)) ∧ tab [(f8, spPart (fun r => r.length = 2) fun r => r), (f6, spPart (fun r => r.length = 2) fun r => [arg 1 r]), (f11, spPart (fun r => r.length = 2 ∧ PairsD (arg 0 r)) gLet), (f9, spPart (fun r => r.length = 3) fun r => r.drop 1), (f10, spPart (fun r => r.length = 2 ∧ isTup (arg 1 r) = true) fun r => tl (arg 1 r)), (f12, spPart (fun r => r.length = 3 ∧ RowsD (arg 1 r) ∧ isDflt (arg 2 r) = true) gChoice), (f7, spPart (fun r => r.length = 2) fun r => [arg 1 r])] f = some (spPart C g) ∧ (∀ r, formW z r = true → C r) ∧ ∀ r, partsW z r = g r := fun z hz => by
    simp only [pwords, List.mem_cons, List.not_mem_nil, or_false] at hz
    rcases hz with rfl | rfl | rfl | rfl | rfl | rfl | rfl | rfl | rfl
    · exact ⟨_, _, _, wPapp, tab_mem ndP2 (.head _), fun r h => by rw [fw_app] at h; exact of_decide_eq_true h, pw_app⟩
    · exact ⟨_, _, _, wPlam, tab_mem ndP2 (.tail _ (.head _)), fun r h => by rw [fw_lam] at h; exact of_decide_eq_true (fand h).1, pw_lam⟩
    · exact ⟨_, _, _, wPlet, tab_mem ndP2 (.tail _ (.tail _ (.head _))), fun r h => by rw [fw_let] at h; exact ⟨of_decide_eq_true (fand (fand h).1).1, rows_are (fand (fand h).1).2⟩, pw_let⟩
    · exact ⟨_, _, _, wPseq, tab_mem ndP2 (.tail _ (.tail _ (.tail _ (.head _)))), fun r h => by rw [fw_seq] at h; exact of_decide_eq_true (fand h).1, pw_seq⟩
    · exact ⟨_, _, _, wPcon, tab_mem ndP2 (.tail _ (.tail _ (.tail _ (.tail _ (.head _))))), fun r h => by rw [fw_con] at h; exact ⟨of_decide_eq_true (fand h).1, (fand (fand h).2).2⟩, pw_con⟩
    · exact ⟨_, _, _, wPcase, tab_mem ndP2 (.tail _ (.tail _ (.tail _ (.tail _ (.tail _ (.head _)))))), fun r h => by rw [fw_case] at h; exact ⟨of_decide_eq_true (fand (fand (fand h).1).1).1, rows_some (fand (fand (fand h).1).1).2, (fand (fand h).1).2⟩, pw_case⟩
    · exact ⟨_, _, _, wPpick, tab_mem ndP2 (.tail _ (.tail _ (.tail _ (.tail _ (.tail _ (.head _)))))), fun r h => by rw [fw_pick] at h; exact ⟨of_decide_eq_true (fand (fand (fand h).1).1).1, rows_some (fand (fand (fand h).1).1).2, (fand (fand h).1).2⟩, pw_pick⟩
    · exact ⟨_, _, _, wPprim, tab_mem ndP2 (.tail _ (.tail _ (.tail _ (.head _)))), fun r h => by rw [fw_prim] at h; exact of_decide_eq_true (fand h).1, pw_prim⟩
    · exact ⟨_, _, _, wPnote, tab_mem ndP2 (.tail _ (.tail _ (.tail _ (.tail _ (.tail _ (.tail _ (.head _))))))), fun r h => by rw [fw_note] at h; exact of_decide_eq_true (fand h).1, pw_note⟩
  have hP : ∀ f sp, tab [(f8, spPart (fun r => r.length = 2) fun r => r), (f6, spPart (fun r => r.length = 2) fun r => [arg 1 r]), (f11, spPart (fun r => r.length = 2 ∧ PairsD (arg 0 r)) gLet), (f9, spPart (fun r => r.length = 3) fun r => r.drop 1), (f10, spPart (fun r => r.length = 2 ∧ isTup (arg 1 r) = true) fun r => tl (arg 1 r)), (f12, spPart (fun r => r.length = 3 ∧ RowsD (arg 1 r) ∧ isDflt (arg 2 r) = true) gChoice), (f7, spPart (fun r => r.length = 2) fun r => [arg 1 r])] f = some sp → Held l.prog w K mg base 2 f sp := fun f sp h => by
    have h := tab_of h
    rcases List.mem_cons.mp h with e | h
    · cases e
      exact held_of CPApp mPApp
    rcases List.mem_cons.mp h with e | h
    · cases e
      exact held_of CPLam mPLam
    rcases List.mem_cons.mp h with e | h
    · cases e
      exact held_of CPLet mPLet
    rcases List.mem_cons.mp h with e | h
    · cases e
      exact held_of CPLater mPLater
    rcases List.mem_cons.mp h with e | h
    · cases e
      exact held_of CPCon mPCon
    rcases List.mem_cons.mp h with e | h
    · cases e
      exact held_of CPChoice mPChoice
    rcases List.mem_cons.mp h with e | h
    · cases e
      exact held_of CPNote mPNote
    cases h
  have TN : TxtN l.prog w K mg base aP esP nP _ := ⟨⟨ldP, kdP, sdP⟩, ⟨_, PySem.W.mg_of X G gdP, rfl⟩, mP, fun z nz => nsIn_out ldP vdP nz, hP⟩
  have CParts := c_parts (P := l.prog) (w := w) (base := base) TN FParts bParts mParts
  have TI : TxtI mg := ⟨nisinstance, nint, nbool, nrange, ntuple, nlist⟩
  have TS : TxtS mg := ⟨nlen, nzip, nsorted, nsum⟩
  have CNDflt := c_ndflt (P := l.prog) (w := w) (base := base)  FNDflt bNDflt mNDflt
  have COwn := c_own (P := l.prog) (w := w) (base := base) TI CNDflt FOwn bOwn mOwn
  have CNamesOf := c_namesof (P := l.prog) (w := w) (base := base) COwn FNamesOf bNamesOf mNamesOf
  have CScopes := c_scopes (P := l.prog) (w := w) (base := base) TS CNamesOf COwn CParts FScopes bScopes mScopes
  have TB : TxtB K mg aC := ⟨nlist, nzip, ⟨_, PySem.W.mg_of X G gtC, rfl⟩, written_tup (by decide) ltC ctC vtC⟩
  have CAtoms := c_atoms (P := l.prog) (w := w) (base := base)  FAtoms bAtoms mAtoms
  have CInnerOf := c_innerof (P := l.prog) (w := w) (base := base) TB CScopes CParts FInnerOf bInnerOf mInnerOf
  have CFree := c_free (P := l.prog) (w := w) (base := base) ⟨nisinstance, nstr, nlist⟩ CAtoms CInnerOf FFree bFree mFree
  have OU : OexC K CU := ⟨⟨_, _, _, _, _, _, _, _, _, _, _, _, _, _, _, xU, rU⟩, saU, exU, tyU, kkU⟩
  have EU : ErrC K mg CU fIU "Unknown" := ⟨OU, iU, tIU, noU, ⟨gaU, ggU, exU, hdU⟩, ⟨gaU, ggU, exU, hdU, clU, sn, tk, moU⟩, PySem.W.mg_of X G klU⟩
  have FIU := fun_mk (st := sUnkI) lIU cIU kIU
  have bIU := FIU.binds (ps := ["self", "name"]) fun _ _ _ _ _ _ us hl => match us, hl with | [_, _], _ => rfl
  have OB : OexC K CB := ⟨⟨_, _, _, _, _, _, _, _, _, _, _, _, _, _, _, xB, rB⟩, saB, exB, tyB, kkB⟩
  have EB : ErrC K mg CB fIB "BadArity" := ⟨OB, iB, tIB, noB, ⟨gaB, ggB, exB, hdB⟩, ⟨gaB, ggB, exB, hdB, clB, sn, tk, moB⟩, PySem.W.mg_of X G klB⟩
  have FIB := fun_mk (st := sBarI) lIB cIB kIB
  have bIB := FIB.binds (ps := ["self", "name"]) fun _ _ _ _ _ _ us hl => match us, hl with | [_, _], _ => rfl
  have RB : ErrB K mg CC := ⟨PySem.W.mg_of X G klC, ⟨rdC, gaC⟩, vC⟩
  have R : Errs l.prog w K mg base CU CB fIU fIB _ _ := ⟨EU, EB, ok_UnkI RB FIU, ok_BarI RB FIB, bIU, bIB⟩
  have HN : Hands K mg CU CB CC CN CBC CBI := ⟨PySem.W.mg_of X G klC, PySem.W.mg_of X G klN, PySem.W.mg_of X G klBC, PySem.W.mg_of X G klBI, nisinstance, PySem.W.exm_ref exU hdU tyU sUU, PySem.W.exm_ref exU hdU tyU sBU, PySem.W.exm_ref exB hdB tyB sBB, qUB, qUBC, qUC, qUN, qBBI, qBC, qBN⟩
  have TO : TxtO mg := ⟨nisinstance, nstr, ndict, nlen, nenumerate⟩
  have COperand := c_operand (P := l.prog) (w := w) (base := base) TO R FOperand bOperand mOperand
  have CExtT := c_extT (P := l.prog) (w := w) (base := base) TO FExtended bExtended mExtended
  have CExtL := c_extL (P := l.prog) (w := w) (base := base) TO FExtended bExtended mExtended
  have CBegT := c_begX (P := l.prog) (w := w) (base := base) CExtT FBeginning bBeginning mBeginning
  have CBegL := c_begX (P := l.prog) (w := w) (base := base) CExtL FBeginning bBeginning mBeginning
  have COperands := c_operands (P := l.prog) (w := w) (base := base) ⟨nsorted⟩ COperand CAtoms CFree CBegL FOperands bOperands mOperands
  have TK : TxtMk mg := ⟨nzip, nlen, ntuple⟩
  have CMGive := c_mk_give (P := l.prog) (w := w) (base := base) TK FMGive bMGive mMGive
  have CMCall := c_mk_call (P := l.prog) (w := w) (base := base) TK FMCall bMCall mMCall
  have CMCon := c_mk_con (P := l.prog) (w := w) (base := base) TK FMCon bMCon mMCon
  have CMPrim := c_mk_prim (P := l.prog) (w := w) (base := base) TK FMPrim bMPrim mMPrim
  have CMLet := c_mk_let (P := l.prog) (w := w) (base := base) TK FMLet bMLet mMLet
  have CMSeq := c_mk_seq (P := l.prog) (w := w) (base := base) TK FMSeq bMSeq mMSeq
  have CMCase := c_mk_case (P := l.prog) (w := w) (base := base) TK FMCase bMCase mMCase
  have CMPick := c_mk_pick (P := l.prog) (w := w) (base := base) TK FMPick bMPick mMPick
  have CMNote := c_mk_note (P := l.prog) (w := w) (base := base) TK FMNote bMNote mMNote
  have CMLater := c_mk_later (P := l.prog) (w := w) (base := base) TK FMLater bMLater mMLater
  have CMPart := c_mk_part (P := l.prog) (w := w) (base := base) TK FMPart bMPart mMPart
  have ndM2 : (([(f23, spMk "atom"), (f24, spMk "call"), (f25, spMk "con"), (f26, spMk "prim"), (f27, spMk "let"), (f28, spMk "seq"), (f29, spMk "case"), (f30, spMk "pick"), (f31, spMk "note"), (f32, spMk "later"), (f33, spMk "part")] : List (Addr × Sp)).map (·.1)).Nodup := ndM
  have mM : ∀ z ∈ thingWords, ∃ f sp, PySem.W.nsIn K aM z = some (some (.ref f)) ∧ tab [(f23, spMk "atom"), (f24, spMk "call"), (f25, spMk "con"), (f26, spMk "prim"), (f27, spMk "let"), (f28, spMk "seq"), (f29, spMk "case"), (f30, spMk "pick"), (f31, spMk "note"), (f32, spMk "later"), (f33, spMk "part")] f = some sp ∧ ∀ vs H Q E, spMk z vs H Q E → sp vs H Q E := fun z hz => by
    simp only [thingWords, List.mem_cons, List.not_mem_nil, or_false] at hz
    rcases hz with rfl | rfl | rfl | rfl | rfl | rfl | rfl | rfl | rfl | rfl | rfl
    · exact ⟨_, _, wMatom, tab_mem ndM2 (.head _), fun _ _ _ _ h => h⟩
    · exact ⟨_, _, wMcall, tab_mem ndM2 (.tail _ (.head _)), fun _ _ _ _ h => h⟩
    · exact ⟨_, _, wMcon, tab_mem ndM2 (.tail _ (.tail _ (.head _))), fun _ _ _ _ h => h⟩
    · exact ⟨_, _, wMprim, tab_mem ndM2 (.tail _ (.tail _ (.tail _ (.head _)))), fun _ _ _ _ h => h⟩
    · exact ⟨_, _, wMlet, tab_mem ndM2 (.tail _ (.tail _ (.tail _ (.tail _ (.head _))))), fun _ _ _ _ h => h⟩
    · exact ⟨_, _, wMseq, tab_mem ndM2 (.tail _ (.tail _ (.tail _ (.tail _ (.tail _ (.head _)))))), fun _ _ _ _ h => h⟩
    · exact ⟨_, _, wMcase, tab_mem ndM2 (.tail _ (.tail _ (.tail _ (.tail _ (.tail _ (.tail _ (.head _))))))), fun _ _ _ _ h => h⟩
    · exact ⟨_, _, wMpick, tab_mem ndM2 (.tail _ (.tail _ (.tail _ (.tail _ (.tail _ (.tail _ (.tail _ (.head _)))))))), fun _ _ _ _ h => h⟩
    · exact ⟨_, _, wMnote, tab_mem ndM2 (.tail _ (.tail _ (.tail _ (.tail _ (.tail _ (.tail _ (.tail _ (.tail _ (.head _))))))))), fun _ _ _ _ h => h⟩
    · exact ⟨_, _, wMlater, tab_mem ndM2 (.tail _ (.tail _ (.tail _ (.tail _ (.tail _ (.tail _ (.tail _ (.tail _ (.tail _ (.head _)))))))))), fun _ _ _ _ h => h⟩
    · exact ⟨_, _, wMpart, tab_mem ndM2 (.tail _ (.tail _ (.tail _ (.tail _ (.tail _ (.tail _ (.tail _ (.tail _ (.tail _ (.tail _ (.head _))))))))))), fun _ _ _ _ h => h⟩
  have hM : ∀ f sp, tab [(f23, spMk "atom"), (f24, spMk "call"), (f25, spMk "con"), (f26, spMk "prim"), (f27, spMk "let"), (f28, spMk "seq"), (f29, spMk "case"), (f30, spMk "pick"), (f31, spMk "note"), (f32, spMk "later"), (f33, spMk "part")] f = some sp → Held l.prog w K mg base 1 f sp := fun f sp h => by
    have h := tab_of h
    rcases List.mem_cons.mp h with e | h
    · cases e
      exact held_of CMGive mMGive
    rcases List.mem_cons.mp h with e | h
    · cases e
      exact held_of CMCall mMCall
    rcases List.mem_cons.mp h with e | h
    · cases e
      exact held_of CMCon mMCon
    rcases List.mem_cons.mp h with e | h
    · cases e
      exact held_of CMPrim mMPrim
    rcases List.mem_cons.mp h with e | h
    · cases e
      exact held_of CMLet mMLet
    rcases List.mem_cons.mp h with e | h
    · cases e
      exact held_of CMSeq mMSeq
    rcases List.mem_cons.mp h with e | h
    · cases e
      exact held_of CMCase mMCase
    rcases List.mem_cons.mp h with e | h
    · cases e
      exact held_of CMPick mMPick
    rcases List.mem_cons.mp h with e | h
    · cases e
      exact held_of CMNote mMNote
    rcases List.mem_cons.mp h with e | h
    · cases e
      exact held_of CMLater mMLater
    rcases List.mem_cons.mp h with e | h
    · cases e
      exact held_of CMPart mMPart
    cases h
  have TPu : TxtPu l.prog w K mg base aM esM nM _ := ⟨ntuple, nlen, ⟨ldM, kdM, sdM⟩, ⟨_, PySem.W.mg_of X G gdM, rfl⟩, mM, hM⟩
  have CPut := c_put (P := l.prog) (w := w) (base := base) TPu FPut bPut mPut
  have CBody := c_body (P := l.prog) (w := w) (base := base) TPu CBegT CExtT CInnerOf COperands CPut FBody bBody mBody
  have CCompile := c_compile (P := l.prog) (w := w) (base := base) ⟨nenumerate, nlen, ntuple⟩ R CBody FCompile bCompile mCompile
  have CActual := c_actual (P := l.prog) (w := w) (base := base) HN R CCompile FActual bActual mActual
  have CFirst := c_first (P := l.prog) (w := w) (base := base) ⟨nisinstance, nstr⟩ FFirst bFirst mFirst
  have CEither := c_either (P := l.prog) (w := w) (base := base)  FEither bEither mEither
  have CUnk := (c_unk_all (P := l.prog) (w := w) (base := base) ⟨nlist⟩ CFirst CEither FUnk bUnk mUnk FUMember bUMember mUMember FURows bURows mURows 9).1
  have CExpected := c_expected (P := l.prog) (w := w) (base := base) ⟨nlist⟩ CUnk FExpected bExpected mExpected
  have CDraws := c_draws (P := l.prog) (w := w) (base := base) TD FDraws bDraws mDraws
  have CNext := c_next (P := l.prog) (w := w) (base := base) TD FNext bNext mNext
  have TW : TxtW mg := ⟨nlen, nstr, nrange, ntuple⟩
  have CLAt := c_latom (P := l.prog) (w := w) (base := base) TD CNext FLAt bLAt mLAt
  have CLAts := c_latoms (P := l.prog) (w := w) (base := base) TW CLAt FLAts bLAts mLAts
  have CFresh := c_fresh (P := l.prog) (w := w) (base := base) TW CNext FFresh bFresh mFresh
  have CNames := c_names (P := l.prog) (w := w) (base := base) TW CFresh FNames bNames mNames
  have CLBody := c_lbody (P := l.prog) (w := w) (base := base) TW CNext CFresh CNames CLAt CLAts FLDef bLDef mLDef FLMem bLMem mLMem FLCh bLCh mLCh FLBody bLBody mLBody 5
  exact c_law ⟨ntuple⟩ CDraws CNext CLBody CActual CExpected FLaw
theorem walk {l : PySem.W.OpenLaw} {q : Program} {loose : List Str} {XP : (Str → Option Value) → Heap → Prop} {YP : World → Heap → Prop} {d : DefRec} {K : Params → PySem.W.Frag} (hn : l.most = some 63) (hdf : d.params.defaults = [])
    (hY : ∀ (w : World) (h : Heap), YP w h → (K w.params).In h)
    (F : ∀ (w : World) (mg : Str → Option Value) (fa : Addr) (h : Heap), (K w.params).In h → h.Ns mainGlobals mg → mg d.name = some (.ref fa) →
      ∃ fd : FuncData, (∀ (s : Shared) (u : Value), BindsTo s fd ⟨[u], []⟩ [("script", u)]) ∧ ∀ base : Heap, (K w.params).In base → base.Ns mainGlobals mg → FnOk l.prog w (K w.params) mg base CX0 21 fa fd ["script"] (spLaw (K w.params))) :
    PySem.W.WalkO q loose XP YP l.row.toRowW d [] (fun f vs => PySem.call f vs) :=
  L2.walk_of (n := 63) (k := 21) (x := "script") (CX := fun _ => CX0) (sp := fun w => spLaw (K w.params)) hn (by decide) hdf ⟨rfl, by decide, by decide⟩ hY F (fun _ _ a ns hl _ hS => ⟨a, ns, rfl, hS, hl, fun _ => rfl⟩) fun _ _ _ _ _ z => z
end Toy
open PySem PySem.W PyProof.Rows
set_option maxRecDepth 100000 in
set_option maxHeartbeats 0 in
theorem PySem.Challenge.cw_needonce_k61_names_that_are_nowhere_holds : PySem.Challenge.rw_needonce_k61_names_that_are_nowhere.Holds := by
  w_on; o_law; k_head; (case hw => w_witness2)
  k_fill
  refine Toy.walk (l := PySem.Challenge.rw_needonce_k61_names_that_are_nowhere) rfl rfl (fun w h Y => PySem.W.kIn_of Y) ?F
  case F =>
    intro w mg fa h KX G hmg
    refine' Toy.all_mk KX G hmg ?a0 ?l0 ?c0 ?k0 ?a1 ?l1 ?c1 ?k1 ?a2 ?l2 ?c2 ?k2 ?a3 ?l3 ?c3 ?k3 ?a4 ?l4 ?c4 ?k4 ?a5 ?l5 ?c5 ?k5 ?a6 ?l6 ?c6 ?k6 ?a7 ?l7 ?c7 ?k7 ?a8 ?l8 ?c8 ?k8 ?a9 ?l9 ?c9 ?k9 ?a10 ?l10 ?c10 ?k10 ?a11 ?l11 ?c11 ?k11 ?a12 ?l12 ?c12 ?k12 ?a13 ?l13 ?c13 ?k13 ?a14 ?l14 ?c14 ?k14 ?a15 ?l15 ?c15 ?k15 ?a16 ?l16 ?c16 ?k16 ?a17 ?l17 ?c17 ?k17 ?a18 ?l18 ?c18 ?k18 ?a19 ?l19 ?c19 ?k19 ?a20 ?l20 ?c20 ?k20 ?a21 ?l21 ?c21 ?k21 ?a22 ?l22 ?c22 ?k22 ?a23 ?l23 ?c23 ?k23 ?a24 ?l24 ?c24 ?k24 ?a25 ?l25 ?c25 ?k25 ?a26 ?l26 ?c26 ?k26 ?a27 ?l27 ?c27 ?k27 ?a28 ?l28 ?c28 ?k28 ?a29 ?l29 ?c29 ?k29 ?a30 ?l30 ?c30 ?k30 ?a31 ?l31 ?c31 ?k31 ?a32 ?l32 ?c32 ?k32 ?a33 ?l33 ?c33 ?k33 ?a34 ?l34 ?c34 ?k34 ?a35 ?l35 ?c35 ?k35 ?a36 ?l36 ?c36 ?k36 ?a37 ?l37 ?c37 ?k37 ?a38 ?l38 ?c38 ?k38 ?a39 ?l39 ?c39 ?k39 ?a40 ?l40 ?c40 ?k40 ?a41 ?l41 ?c41 ?k41 ?a42 ?l42 ?c42 ?k42 ?a43 ?l43 ?c43 ?k43 ?a44 ?l44 ?c44 ?k44 ?a45 ?l45 ?c45 ?k45 ?a46 ?l46 ?c46 ?k46 ?a47 ?l47 ?c47 ?k47 ?a48 ?l48 ?c48 ?k48 ?a49 ?l49 ?c49 ?k49 ?a50 ?l50 ?c50 ?k50 ?a51 ?l51 ?c51 ?k51 ?gtC ?ltC ?ctC ?vtC ?gdP ?ldP ?kdP ?sdP ?vdP ?wPapp ?wPlam ?wPlet ?wPseq ?wPcon ?wPcase ?wPpick ?wPprim ?wPnote ?gdM ?ldM ?kdM ?sdM ?vdM ?wMatom ?wMcall ?wMcon ?wMprim ?wMlet ?wMseq ?wMcase ?wMpick ?wMnote ?wMlater ?wMpart ?ndP ?ndM ?klC ?klN ?klBC ?klBI ?rdC ?gaC ?vC ?klU ?xU ?rU ?saU ?exU ?tyU ?kkU ?iU ?noU ?gaU ?ggU ?hdU ?clU ?moU ?tIU ?lIU ?cIU ?kIU ?klB ?xB ?rB ?saB ?exB ?tyB ?kkB ?iB ?noB ?gaB ?ggB ?hdB ?clB ?moB ?tIB ?lIB ?cIB ?kIB ?sn ?tk ?sUU ?sBU ?sBB ?qUB ?qUBC ?qUC ?qUN ?qBBI ?qBC ?qBN ?zlen ?zint ?zrange ?zabs ?zisinstance ?zstr ?zbool ?ztuple ?zlist ?zzip ?zsorted ?zsum ?zdict ?zenumerate
    (case a0 => k_is)
    (case l0 => k_is)
    (case c0 => k_is)
    (case k0 => k_is)
    (case a1 => k_is)
    (case l1 => k_is)
    (case c1 => k_is)
    (case k1 => k_is)
    (case a2 => k_is)
    (case l2 => k_is)
    (case c2 => k_is)
    (case k2 => k_is)
    (case a3 => k_is)
    (case l3 => k_is)
    (case c3 => k_is)
    (case k3 => k_is)
    (case a4 => k_is)
    (case l4 => k_is)
    (case c4 => k_is)
    (case k4 => k_is)
    (case a5 => k_is)
    (case l5 => k_is)
    (case c5 => k_is)
    (case k5 => k_is)
    (case a6 => k_is)
    (case l6 => k_is)
    (case c6 => k_is)
    (case k6 => k_is)
    (case a7 => k_is)
    (case l7 => k_is)
    (case c7 => k_is)
    (case k7 => k_is)
    (case a8 => k_is)
    (case l8 => k_is)
    (case c8 => k_is)
    (case k8 => k_is)
    (case a9 => k_is)
    (case l9 => k_is)
    (case c9 => k_is)
    (case k9 => k_is)
    (case a10 => k_is)
    (case l10 => k_is)
    (case c10 => k_is)
    (case k10 => k_is)
    (case a11 => k_is)
    (case l11 => k_is)
    (case c11 => k_is)
    (case k11 => k_is)
    (case a12 => k_is)
    (case l12 => k_is)
    (case c12 => k_is)
    (case k12 => k_is)
    (case a13 => k_is)
    (case l13 => k_is)
    (case c13 => k_is)
    (case k13 => k_is)
    (case a14 => k_is)
    (case l14 => k_is)
    (case c14 => k_is)
    (case k14 => k_is)
    (case a15 => k_is)
    (case l15 => k_is)
    (case c15 => k_is)
    (case k15 => k_is)
    (case a16 => k_is)
    (case l16 => k_is)
    (case c16 => k_is)
    (case k16 => k_is)
    (case a17 => k_is)
    (case l17 => k_is)
    (case c17 => k_is)
    (case k17 => k_is)
    (case a18 => k_is)
    (case l18 => k_is)
    (case c18 => k_is)
    (case k18 => k_is)
    (case a19 => k_is)
    (case l19 => k_is)
    (case c19 => k_is)
    (case k19 => k_is)
    (case a20 => k_is)
    (case l20 => k_is)
    (case c20 => k_is)
    (case k20 => k_is)
    (case a21 => k_is)
    (case l21 => k_is)
    (case c21 => k_is)
    (case k21 => k_is)
    (case a22 => k_is)
    (case l22 => k_is)
    (case c22 => k_is)
    (case k22 => k_is)
    (case a23 => k_is)
    (case l23 => k_is)
    (case c23 => k_is)
    (case k23 => k_is)
    (case a24 => k_is)
    (case l24 => k_is)
    (case c24 => k_is)
    (case k24 => k_is)
    (case a25 => k_is)
    (case l25 => k_is)
    (case c25 => k_is)
    (case k25 => k_is)
    (case a26 => k_is)
    (case l26 => k_is)
    (case c26 => k_is)
    (case k26 => k_is)
    (case a27 => k_is)
    (case l27 => k_is)
    (case c27 => k_is)
    (case k27 => k_is)
    (case a28 => k_is)
    (case l28 => k_is)
    (case c28 => k_is)
    (case k28 => k_is)
    (case a29 => k_is)
    (case l29 => k_is)
    (case c29 => k_is)
    (case k29 => k_is)
    (case a30 => k_is)
    (case l30 => k_is)
    (case c30 => k_is)
    (case k30 => k_is)
    (case a31 => k_is)
    (case l31 => k_is)
    (case c31 => k_is)
    (case k31 => k_is)
    (case a32 => k_is)
    (case l32 => k_is)
    (case c32 => k_is)
    (case k32 => k_is)
    (case a33 => k_is)
    (case l33 => k_is)
    (case c33 => k_is)
    (case k33 => k_is)
    (case a34 => k_is)
    (case l34 => k_is)
    (case c34 => k_is)
    (case k34 => k_is)
    (case a35 => k_is)
    (case l35 => k_is)
    (case c35 => k_is)
    (case k35 => k_is)
    (case a36 => k_is)
    (case l36 => k_is)
    (case c36 => k_is)
    (case k36 => k_is)
    (case a37 => k_is)
    (case l37 => k_is)
    (case c37 => k_is)
    (case k37 => k_is)
    (case a38 => k_is)
    (case l38 => k_is)
    (case c38 => k_is)
    (case k38 => k_is)
    (case a39 => k_is)
    (case l39 => k_is)
    (case c39 => k_is)
    (case k39 => k_is)
    (case a40 => k_is)
    (case l40 => k_is)
    (case c40 => k_is)
    (case k40 => k_is)
    (case a41 => k_is)
    (case l41 => k_is)
    (case c41 => k_is)
    (case k41 => k_is)
    (case a42 => k_is)
    (case l42 => k_is)
    (case c42 => k_is)
    (case k42 => k_is)
    (case a43 => k_is)
    (case l43 => k_is)
    (case c43 => k_is)
    (case k43 => k_is)
    (case a44 => k_is)
    (case l44 => k_is)
    (case c44 => k_is)
    (case k44 => k_is)
    (case a45 => k_is)
    (case l45 => k_is)
    (case c45 => k_is)
    (case k45 => k_is)
    (case a46 => k_is)
    (case l46 => k_is)
    (case c46 => k_is)
    (case k46 => k_is)
    (case a47 => k_is)
    (case l47 => k_is)
    (case c47 => k_is)
    (case k47 => k_is)
    (case a48 => k_is)
    (case l48 => k_is)
    (case c48 => k_is)
    (case k48 => k_is)
    (case a49 => k_is)
    (case l49 => k_is)
    (case c49 => k_is)
    (case k49 => k_is)
    (case a50 => k_is)
    (case l50 => k_is)
    (case c50 => k_is)
    (case k50 => k_is)
    (case a51 => k_is)
    (case l51 => k_is)
    (case c51 => k_is)
    (case k51 => k_is)
    (case gtC => k_is)
    (case ltC => k_is)
    (case ctC => rfl)
    (case vtC => decide +kernel)
    (case gdP => k_is)
    (case ldP => k_is)
    (case kdP => exact ⟨⟨_, _, rfl, rfl⟩, ⟨_, _, rfl, rfl⟩, ⟨_, _, rfl, rfl⟩, ⟨_, _, rfl, rfl⟩, ⟨_, _, rfl, rfl⟩, ⟨_, _, rfl, rfl⟩, ⟨_, _, rfl, rfl⟩, ⟨_, _, rfl, rfl⟩, ⟨_, _, rfl, rfl⟩, trivial⟩)
    (case sdP => rfl)
    (case vdP => rfl)
    (case wPapp => k_is)
    (case wPlam => k_is)
    (case wPlet => k_is)
    (case wPseq => k_is)
    (case wPcon => k_is)
    (case wPcase => k_is)
    (case wPpick => k_is)
    (case wPprim => k_is)
    (case wPnote => k_is)
    (case gdM => k_is)
    (case ldM => k_is)
    (case kdM => exact ⟨⟨_, _, rfl, rfl⟩, ⟨_, _, rfl, rfl⟩, ⟨_, _, rfl, rfl⟩, ⟨_, _, rfl, rfl⟩, ⟨_, _, rfl, rfl⟩, ⟨_, _, rfl, rfl⟩, ⟨_, _, rfl, rfl⟩, ⟨_, _, rfl, rfl⟩, ⟨_, _, rfl, rfl⟩, ⟨_, _, rfl, rfl⟩, ⟨_, _, rfl, rfl⟩, trivial⟩)
    (case sdM => rfl)
    (case vdM => rfl)
    (case wMatom => k_is)
    (case wMcall => k_is)
    (case wMcon => k_is)
    (case wMprim => k_is)
    (case wMlet => k_is)
    (case wMseq => k_is)
    (case wMcase => k_is)
    (case wMpick => k_is)
    (case wMnote => k_is)
    (case wMlater => k_is)
    (case wMpart => k_is)
    (case ndP => decide)
    (case ndM => decide)
    (case klC => k_is)
    (case klN => k_is)
    (case klBC => k_is)
    (case klBI => k_is)
    (case rdC => k_is)
    (case gaC => k_is)
    (case vC => k_is)
    (case klU => k_is)
    (case xU => k_is)
    (case rU => decide +kernel)
    (case saU => k_is)
    (case exU => k_is)
    (case tyU => k_is)
    (case kkU => k_is)
    (case iU => k_is)
    (case noU => k_is)
    (case gaU => k_is)
    (case ggU => k_is)
    (case hdU => k_is)
    (case clU => k_is)
    (case moU => k_is)
    (case tIU => k_is)
    (case lIU => k_is)
    (case cIU => k_is)
    (case kIU => k_is)
    (case klB => k_is)
    (case xB => k_is)
    (case rB => decide +kernel)
    (case saB => k_is)
    (case exB => k_is)
    (case tyB => k_is)
    (case kkB => k_is)
    (case iB => k_is)
    (case noB => k_is)
    (case gaB => k_is)
    (case ggB => k_is)
    (case hdB => k_is)
    (case clB => k_is)
    (case moB => k_is)
    (case tIB => k_is)
    (case lIB => k_is)
    (case cIB => k_is)
    (case kIB => k_is)
    (case sn => k_is)
    (case tk => k_is)
    (case sUU => first | k_is | rfl)
    (case sBU => first | k_is | rfl)
    (case sBB => first | k_is | rfl)
    (case qUB => first | k_is | kit_is)
    (case qUBC => first | k_is | kit_is)
    (case qUC => first | k_is | kit_is)
    (case qUN => first | k_is | kit_is)
    (case qBBI => first | k_is | kit_is)
    (case qBC => first | k_is | kit_is)
    (case qBN => first | k_is | kit_is)
    (case zlen => k_is)
    (case zint => k_is)
    (case zrange => k_is)
    (case zabs => k_is)
    (case zisinstance => k_is)
    (case zstr => k_is)
    (case zbool => k_is)
    (case ztuple => k_is)
    (case zlist => k_is)
    (case zzip => k_is)
    (case zsorted => k_is)
    (case zsum => k_is)
    (case zdict => k_is)
    (case zenumerate => k_is)

