import PyProof.Rows.All
import Wide.All
import OpenK.AllK
import Wide.FinOn
import HandS.ForMost
import HandS.IsInst
import KE.OsScanText
import HandS.Codes
import HandS.Conv
import HandS.StrMore
import KE.KStrWords
import KE.KxText
import HandS.SortInts
import HandS.More
import HandS.DictComp
import HandS.CallLocal
import HandS.NoneIn
import HandS.TupAny
import HandS.Star
import PyProof.StrOps2
import PySem.Challenge.RW_needonce_k40_core_terms_and_others
set_option Elab.async false
set_option maxRecDepth 100000
set_option maxHeartbeats 4000000
/-! Part A: how defs are called, the drawing of numbers from the script. -/
namespace Toy
open PySem L2
open PyProof.Rows (envOfC)
def topS (i : Nat) : Stmt := PySem.Challenge.pw_needonce_k40_core_terms_and_others.main.body.getD i (.Pass ⟨0, 0, 0, 0⟩)
theorem boot_min : bootBuiltins "min" = some (.builtin "min") := by decide +kernel
theorem boot_isinstance : bootBuiltins "isinstance" = some (.builtin "isinstance") := by decide +kernel
theorem boot_abs : bootBuiltins "abs" = some (.builtin "abs") := by decide +kernel
theorem boot_int : bootBuiltins "int" = some (.type "int") := by decide +kernel
theorem boot_list : bootBuiltins "list" = some (.type "list") := by decide +kernel
/-- a written row of texts: what it is -/
def tStrs (zs : List Str) : TA := fun _ H Q => Q (zs.map V.str) H
def strE : Expr → Option Str
  | .Constant (.str z) _ _ => some z
  | _ => none
theorem strE_is {e : Expr} {z : Str} (h : strE e = some z) : ∃ j pos, e = .Constant (.str z) j pos := by
  unfold strE at h
  split at h
  · cases h
    exact ⟨_, _, rfl⟩
  · cases h
/-- a written row of texts -/
theorem pa_strs {X : Cx} : ∀ {es : List Expr} {zs : List Str}, es.map strE = zs.map some → PA X es (tStrs zs)
  | [], [], _ => pa_nil
  | [], _ :: _, h => by cases h
  | _ :: _, [], h => by cases h
  | e :: es, z :: zs, h => by
    rw [List.map_cons, List.map_cons] at h
    obtain ⟨h1, h2⟩ := List.cons.inj h
    obtain ⟨j, pos, rfl⟩ := strE_is h1
    exact pa_cons pe_str (pa_strs h2)
theorem strs_read {zs : List Str} {σ : L2.St} {H : Hp} {Q : List V → Hp → Prop} (h : Q (zs.map V.str) H) : tStrs zs σ H Q := h
/-- what the proofs ask of the module's names -/
structure TxtD (mg : Str → Option Value) : Prop where
  zlen : mg "len" = none
  zint : mg "int" = none
  zrange : mg "range" = none
  zabs : mg "abs" = none
section
variable {P : Program} {w : World} {K : PySem.W.Frag} {mg : Str → Option Value} {base : Heap} 
/-- a def as one that may be called by its name -/
theorem cal_of {x : Str} {st : Stmt} {f : Addr} {fd : FuncData} {N ps : List Str} {k : Nat} {sp : Sp} (F : Fun K x x st f fd) (hm : mg x = some (.ref f)) (b : Binds K fd ps []) (S : FnScope N ps (defScope st)) (len : ∀ vs H Q E, sp vs H Q E → vs.length = ps.length)
    (hbody : ∀ (cdv : Value) (A : Around) (outer : List Env) (s : Shared) (H : Hp) (vs : List V) (Q : VK) (E : XK), Room k (A.deeper (envOfC x (defScope st) s.heap.objs.size f cdv)) → sp vs H Q E →
      ∃ t, PSs (cxOf CX0 P w K mg base N x (defScope st) f cdv A outer s H E).nox (defBody st) t ∧ t { nx := fun _ H' => Q .non H', rt := Q } (start N vs) H) : C8.Cal P w K mg base (k + 1) x sp [] :=
  ⟨f, fd, ps, [], F.ok S len hbody, hm, F.kp, b, .nil⟩
theorem same_new {H : Hp} {p : Addr} (h : H p = none) (o : HO) : Same H (upd H p o) := fun b u q => by rw [upd_ne (ne_of_none q h)]; exact q
theorem same_upd {H H' : Hp} {p : Addr} (h : H p = none) (s : Same H H') (o : HO) : Same H (upd H' p o) := fun b u q => by rw [upd_ne (ne_of_none q h)]; exact s b u q
theorem szl {n : Nat} (h : n ≤ 100000) : n < sizeLine := Nat.lt_of_le_of_lt h (by decide)
theorem at_ok {α : Type} {xs : List α} {k : Nat} (h : k < xs.length) : atI xs (0 + (k : Int)) = some xs[k] := by
  rw [Int.zero_add]
  exact atI_nat (List.getElem?_eq_getElem h)
theorem at_int {ns : List Int} {i : Int} (h0 : 0 ≤ i) (h1 : i < (ns.length : Int)) : ∃ v : Int, atI (ns.map V.int) i = some (.int v) := by
  have hk : i.toNat < ns.length := by omega
  refine ⟨ns[i.toNat], ?_⟩
  have q : atI (ns.map V.int) ((i.toNat : Nat) : Int) = some (.int ns[i.toNat]) := atI_nat (by rw [List.getElem?_map, List.getElem?_eq_getElem hk] <;> rfl)
  rw [show ((i.toNat : Nat) : Int) = i by omega] at q
  exact q

theorem at_intR {ns : List Int} (h : ∀ x ∈ ns, 0 ≤ x ∧ x < 997) {i : Int} (h0 : 0 ≤ i) (h1 : i < (ns.length : Int)) : ∃ v : Int, atI (ns.map V.int) i = some (.int v) ∧ 0 ≤ v ∧ v < 997 := by
  have hk : i.toNat < ns.length := by omega
  have q : atI (ns.map V.int) ((i.toNat : Nat) : Int) = some (.int ns[i.toNat]) := atI_nat (by rw [List.getElem?_map, List.getElem?_eq_getElem hk] <;> rfl)
  rw [show ((i.toNat : Nat) : Int) = i by omega] at q
  exact ⟨ns[i.toNat], q, h _ (List.getElem_mem hk)⟩
def RowIn (row : List Int) : Prop := ∀ x ∈ row, 0 ≤ x ∧ x < 997
theorem RowIn.snoc {row : List Int} (h : RowIn row) {z : Int} : RowIn (row ++ [z % 997]) := fun x hx => by
  rcases List.mem_append.mp hx with e | e
  · exact h x e
  · rw [List.mem_singleton.mp e]; omega
/-! ### the draws of a script -/
def dk4 (r : Addr) (i n l : Int) : List (Key × V) := [(Sum.inr "row", .ref r), (Sum.inr "at", .int i), (Sum.inr "names", .int n), (Sum.inr "left", .int l)]
theorem nk_ra : ¬ (Sum.inr ("row" : Str) : Key) = Sum.inr ("at" : Str) := by decide +kernel
theorem nk_rl : ¬ (Sum.inr ("row" : Str) : Key) = Sum.inr ("left" : Str) := by decide +kernel
theorem nk_al : ¬ (Sum.inr ("at" : Str) : Key) = Sum.inr ("left" : Str) := by decide +kernel
theorem nk_nl : ¬ (Sum.inr ("names" : Str) : Key) = Sum.inr ("left" : Str) := by decide +kernel
theorem dk_row (r : Addr) (i n l : Int) : valV (dk4 r i n l) (Sum.inr "row" : Key) = some (.ref r) := valV_pos rfl
theorem dk_at (r : Addr) (i n l : Int) : valV (dk4 r i n l) (Sum.inr "at" : Key) = some (.int i) := (valV_neg nk_ra).trans (valV_pos rfl)
theorem dk_left (r : Addr) (i n l : Int) : valV (dk4 r i n l) (Sum.inr "left" : Key) = some (.int l) := (valV_neg nk_rl).trans ((valV_neg nk_al).trans ((valV_neg nk_nl).trans (valV_pos rfl)))
theorem dk_put (r : Addr) (i n l j : Int) : putK (dk4 r i n l) (Sum.inr "at" : Key) (.int j) = dk4 r j n l := by
  have h1 : ¬ ("row" : Str) = "at" := by decide +kernel
  have h2 : ¬ ("names" : Str) = "at" := by decide +kernel
  have h3 : ¬ ("left" : Str) = "at" := by decide +kernel
  simp [putK, dk4, h1, h2, h3]
theorem dk_putl (r : Addr) (i n l j : Int) : putK (dk4 r i n l) (Sum.inr "left" : Key) (.int j) = dk4 r i n j := by
  have h1 : ¬ ("row" : Str) = "left" := by decide +kernel
  have h2 : ¬ ("names" : Str) = "left" := by decide +kernel
  have h3 : ¬ ("at" : Str) = "left" := by decide +kernel
  simp [putK, dk4, h1, h2, h3]
theorem dk_merge (r : Addr) (l : Int) : mergeK [] [(Sum.inr "row", .ref r), (Sum.inr "at", .int 0), (Sum.inr "names", .int 0), (Sum.inr "left", .int l)] = dk4 r 0 0 l := by
  have h1 : ¬ ("row" : Str) = "at" := by decide +kernel
  have h2 : ¬ ("row" : Str) = "names" := by decide +kernel
  have h3 : ¬ ("row" : Str) = "left" := by decide +kernel
  have h4 : ¬ ("at" : Str) = "names" := by decide +kernel
  have h5 : ¬ ("at" : Str) = "left" := by decide +kernel
  have h6 : ¬ ("names" : Str) = "left" := by decide +kernel
  simp [mergeK, putK, dk4, h1, h2, h3, h4, h5, h6]
/-- a row of draws -/
def RowOk (row : List Int) : Prop := (0 < row.length ∧ row.length ≤ 1000) ∧ ∀ x ∈ row, 0 ≤ x ∧ x < 997
/-- a reader of draws stands at p; not more than B were taken -/
def DAt (H : Hp) (p r : Addr) (B : Nat) : Prop := ∃ (row : List Int) (i : Nat) (n l : Int), H p = some (.dK (dk4 r (i : Int) n l)) ∧ H r = some (.lst (row.map V.int)) ∧ RowOk row ∧ i ≤ B
theorem DAt.same {H H' : Hp} {p r : Addr} {B : Nat} (d : DAt H p r B) (s : Same H H') : DAt H' p r B := by
  obtain ⟨row, i, n, l, h1, h2, h3⟩ := d
  exact ⟨row, i, n, l, s _ _ h1, s _ _ h2, h3⟩
theorem DAt.more {H : Hp} {p r : Addr} {B C : Nat} (d : DAt H p r B) (h : B ≤ C) : DAt H p r C := by
  obtain ⟨row, i, n, l, h1, h2, h3, h4⟩ := d
  exact ⟨row, i, n, l, h1, h2, h3, Nat.le_trans h4 h⟩
theorem DAt.fresh {H : Hp} {p r x : Addr} {B : Nat} (d : DAt H p r B) (hx : H x = none) : x ≠ p ∧ x ≠ r := by
  obtain ⟨row, i, n, l, h1, h2, _⟩ := d
  exact ⟨fun e => (by rw [e, h1] at hx; cases hx), fun e => (by rw [e, h2] at hx; cases hx)⟩
theorem DAt.off {H : Hp} {p r x : Addr} {B : Nat} (d : DAt H p r B) (h1 : x ≠ p) (h2 : x ≠ r) (o : HO) : DAt (upd H x o) p r B := by
  obtain ⟨row, i, n, l, g1, g2, g3⟩ := d
  exact ⟨row, i, n, l, by rw [upd_ne h1.symm]; exact g1, by rw [upd_ne h2.symm]; exact g2, g3⟩
/-- all but p stays -/
def Keep (p : Addr) (H H' : Hp) : Prop := ∀ b o, b ≠ p → H b = some o → H' b = some o
theorem Keep.refl (p : Addr) (H : Hp) : Keep p H H := fun _ _ _ e => e
theorem Keep.same {p : Addr} {H H' : Hp} (s : Same H H') : Keep p H H' := fun b o _ e => s b o e
theorem Keep.trans {p : Addr} {H1 H2 H3 : Hp} (h : Keep p H1 H2) (k : Keep p H2 H3) : Keep p H1 H3 := fun b o n e => k b o n (h b o n e)
theorem Keep.free {p : Addr} {H H' : Hp} (k : Keep p H H') {a : Addr} (n : a ≠ p) (h : H' a = none) : H a = none := by
  cases e : H a with
  | none => rfl
  | some u => rw [k a u n e] at h; cases h
theorem keep_upd {p D : Addr} {H H' : Hp} (h : H D = none) (k : Keep p H H') (o : HO) : Keep p H (upd H' D o) := fun b u n e => by
  rw [upd_ne (ne_of_none e h)]
  exact k b u n e
theorem DAt.ne_list {H : Hp} {p r x : Addr} {B : Nat} {ys : List V} (d : DAt H p r B) (h : H x = some (.lst ys)) : x ≠ p := fun e => by
  obtain ⟨_, _, _, _, h1, _⟩ := d
  rw [e, h1] at h
  cases h
theorem DAt.ne_tup {H : Hp} {p r x : Addr} {B : Nat} {ys : List V} (d : DAt H p r B) (h : H x = some (.tup ys)) : x ≠ p := fun e => by
  obtain ⟨_, _, _, _, h1, _⟩ := d
  rw [e, h1] at h
  cases h
abbrev sTake : Stmt := topS 47
theorem scTake : FnScope ["d", "at"] ["d"] (defScope sTake) := ⟨rfl, rfl, rfl, by decide +kernel, rfl, by decide +kernel, by decide +kernel⟩
/-- some number, not great; the reader moves on -/
def spTake : Sp := fun vs H Q _ => ∃ (p r : Addr) (B : Nat), vs = [.ref p] ∧ DAt H p r B ∧ ∀ (n : Int) (H' : Hp), 0 ≤ n → n ≤ 997 + (B : Int) → Keep p H H' → DAt H' p r (B + 1) → Q (.int n) H'
theorem c_take {f : Addr} {fd : FuncData} (T : TxtD mg) (F : Fun K "_law_take" "_law_take" sTake f fd) (b : Binds K fd ["d"] []) (hm : mg "_law_take" = some (.ref f)) : C8.Cal P w K mg base 1 "_law_take" spTake [] := by
  refine cal_of F hm b scTake (fun vs H Q E h => ?_) (fun cdv A outer s H vs Q E hr h => ?_)
  · obtain ⟨p, r, B, rfl, _⟩ := h
    rfl
  obtain ⟨p, r, B, rfl, ⟨row, i, n, l, hp, hrow, ⟨⟨hl0, hl1⟩, hrw⟩, hiB⟩, q⟩ := h
  have hu := hu_of hr
  have npr : r ≠ p := ne_of hrow hp (by intro z; cases z)
  refine ⟨_, (pss_cons (ps_set (i := 1) scTake.nd rfl (Or.inl rfl) (pe_dget hu (pv 0) pe_str (fun _ _ => rfl)))
    (pss_cons (ps_dput hu (pv 0) pe_str (pe_op op_add (pv 1) pe_int) rfl)
    (pss_one (ps_ret (pe_op op_add (pe_ix ix_list (pe_dget hu (pv 0) pe_str (fun _ _ => rfl)) (pe_op op_mod (pv 1) (pe_callB call_len_seq rfl T.zlen PySem.boot_len (pa_cons (pe_dget hu (pv 0) pe_str (fun _ _ => rfl)) pa_nil))) (fun _ _ => rfl)) (pe_op op_fdiv (pv 1) (pe_callB call_len_seq rfl T.zlen PySem.boot_len (pa_cons (pe_dget hu (pv 0) pe_str (fun _ _ => rfl)) pa_nil)))))))), ?_⟩
  refine ⟨_, rfl, p, _, rfl, (dk_at r _ _ _ ▸ DGet.k (k := Sum.inr "at") hp), ?_⟩
  refine ⟨_, rfl, _, _, rfl, rfl, _, rfl, p, _, rfl, DPut.k (k := Sum.inr "at") hp (by show 4 < sizeLine; decide), ?_⟩
  rw [dk_put]
  have hp2 : upd H p (.dK (dk4 r ((i : Int) + 1) n l)) p = some (.dK (dk4 r ((i : Int) + 1) n l)) := upd_same
  have hr2 : upd H p (.dK (dk4 r ((i : Int) + 1) n l)) r = some (.lst (row.map V.int)) := by rw [upd_ne npr]; exact hrow
  have fin : ∀ z : Int, 0 ≤ z → z ≤ 997 + (B : Int) → Q (.int z) (upd H p (.dK (dk4 r ((i : Int) + 1) n l))) := fun z h0 h1 =>
    q z _ h0 h1 (fun b o hb e => by rw [upd_ne hb]; exact e) ⟨row, i + 1, n, l, by rw [upd_same]; rfl, hr2, ⟨⟨hl0, hl1⟩, hrw⟩, by omega⟩
  generalize upd H p (.dK (dk4 r ((i : Int) + 1) n l)) = H2 at hp2 hr2 fin ⊢
  have hlen : (0 : Int) < (((row.map V.int).length : Nat) : Int) := by rw [List.length_map]; omega
  have m0 := Int.emod_nonneg (i : Int) (b := (((row.map V.int).length : Nat) : Int)) (by omega)
  have m1 := Int.emod_lt_of_pos (i : Int) hlen
  obtain ⟨v, hv, hv0, hv1⟩ := at_intR hrw (i := (i : Int) % (((row.map V.int).length : Nat) : Int)) m0 (by rw [List.length_map] at m1 ⊢; exact m1)
  refine ⟨_, rfl, p, _, rfl, (dk_row r _ _ _ ▸ DGet.k (k := Sum.inr "row") hp2), _, rfl, _, rfl, p, _, rfl, (dk_row r _ _ _ ▸ DGet.k (k := Sum.inr "row") hp2), r, _, rfl, .inl (SqL.of hr2), _, _, rfl, rfl, hlen, r, _, _, _, rfl, rfl, SqL.of hr2, hv, ?_⟩
  refine ⟨_, rfl, _, rfl, p, _, rfl, (dk_row r _ _ _ ▸ DGet.k (k := Sum.inr "row") hp2), r, _, rfl, .inl (SqL.of hr2), ?_⟩
  refine ⟨_, _, rfl, rfl, ⟨hlen, by rw [List.length_map]; omega⟩, _, _, rfl, rfl, ?_⟩
  have d0 := Int.ediv_nonneg (a := (i : Int)) (b := (((row.map V.int).length : Nat) : Int)) (by omega) (by omega)
  have d1 : (i : Int) / (((row.map V.int).length : Nat) : Int) ≤ (i : Int) := Int.ediv_le_self _ (by omega)
  exact fin _ (by omega) (by omega)
abbrev sDraws : Stmt := topS 46
theorem scDraws : FnScope ["script", "many", "draws", "mixed", "k", "cell", "rest", "turn"] ["script", "many"] (defScope sDraws) := ⟨rfl, rfl, rfl, by decide +kernel, rfl, by decide +kernel, by decide +kernel⟩
def spDraws (K : PySem.W.Frag) : Sp := fun vs H Q _ => ∃ (a : Addr) (ns : List Int) (m : Nat), vs = [.ref a, .int (m : Int)] ∧ SqL K H a (ns.map V.int) ∧ ns.length ≤ 63 ∧ 0 < m ∧ m ≤ 1000 ∧ ∀ (r : Addr) (row : List Int) (H' : Hp), H r = none → Same H H' → H' r = some (.lst (row.map V.int)) → RowOk row → Q (.ref r) H'
theorem cut_take (row : List Int) (m : Nat) (h : m ≤ row.length) : cutV (row.map V.int) none (some (m : Int)) = (row.take m).map V.int := by
  unfold cutV
  rw [HT.sIx_none, HT.sIx_nat, List.length_map, List.drop_zero, Nat.sub_zero, Nat.min_eq_left h, List.map_take]
theorem c_draws {f : Addr} {fd : FuncData} (T : TxtD mg) (F : Fun K "_law_draws" "_law_draws" sDraws f fd) (b : Binds K fd ["script", "many"] []) (hm : mg "_law_draws" = some (.ref f)) : C8.Cal P w K mg base 1 "_law_draws" (spDraws K) [] := by
  refine cal_of F hm b scDraws (fun vs H Q E h => ?_) (fun cdv A outer s H vs Q E hr h => ?_)
  · obtain ⟨a, ns, m, rfl, _⟩ := h
    rfl
  obtain ⟨a, ns, m, rfl, hS, h63, hm0, hm1, q⟩ := h
  refine ⟨_, (pss_cons (ps_set (i := 2) scDraws.nd rfl (Or.inl rfl) (pe_lst pa_nil))
    (pss_cons (ps_set (i := 3) scDraws.nd rfl (Or.inl rfl) pe_int)
    (pss_cons (ps_for PassesOwn.never rfl (pi_range1 rfl T.zrange (pa_cons (pe_callB call_len_seq rfl T.zlen PySem.boot_len (pa_cons (pv 0) pa_nil)) pa_nil)) (pg_name (i := 4) scDraws.nd rfl (Or.inl rfl))
      (pss_cons (ps_set (i := 5) scDraws.nd rfl (Or.inl rfl) (pe_callB call_abs rfl T.zabs boot_abs (pa_cons (pe_callTy call_int1 rfl T.zint boot_int (pa_cons (pe_ix ix_list (pv 0) (pv 4) (fun _ _ => rfl)) pa_nil)) pa_nil)))
    (pss_cons (ps_set (i := 3) scDraws.nd rfl (Or.inl rfl) (pe_op op_mod (pe_callTy call_int1 rfl T.zint boot_int (pa_cons (pe_op op_add (pe_op op_add (pe_op op_mul (pv 3) pe_int) (pe_op op_mod (pv 5) pe_int)) (pv 4)) pa_nil)) pe_int))
    (pss_cons (ps_set (i := 6) scDraws.nd rfl (Or.inl rfl) pe_int)
    (C8.pss_cut (ps_if (pt_cmpR op_ge (pv 5) (pe_op op_pow pe_int pe_int) (nomark _))
      (pss_one (ps_set (i := 6) scDraws.nd rfl (Or.inl rfl) (pv 5)))
      (pss_cons (ps_expr (pe_bm PySem.F.plainAttrs_list PySem.F.slot_list_append PySem.F.type_list_append mt_append (pv 2) (pa_cons (pe_op op_mod (pv 5) pe_int) pa_nil)))
    (pss_one (ps_expr (pe_bm PySem.F.plainAttrs_list PySem.F.slot_list_append PySem.F.type_list_append mt_append (pv 2) (pa_cons (pe_op op_mod (pe_op op_mod (pe_callTy call_int1 rfl T.zint boot_int (pa_cons (pe_op op_add (pe_op op_mul (pv 3) pe_int) pe_int) pa_nil)) pe_int) pe_int) pa_nil))))))
    (pss_one (ps_for PassesOwn.never rfl (pi_range1 rfl T.zrange (pa_cons pe_int pa_nil)) (pg_name (i := 7) scDraws.nd rfl (Or.inl rfl))
      (pss_one (ps_if (pt_cmpR op_gt (pv 6) pe_int (nomark _))
      (pss_cons (ps_expr (pe_bm PySem.F.plainAttrs_list PySem.F.slot_list_append PySem.F.type_list_append mt_append (pv 2) (pa_cons (pe_op op_mod (pe_callTy call_int1 rfl T.zint boot_int (pa_cons (pv 6) pa_nil)) pe_int) pa_nil)))
    (pss_one (ps_set (i := 6) scDraws.nd rfl (Or.inl rfl) (pe_op op_fdiv (pv 6) pe_int))))
      pss_nil)))))))))
    (pss_cons (ps_for PassesOwn.never rfl (pi_range1 rfl T.zrange (pa_cons (pv 1) pa_nil)) (pg_name (i := 4) scDraws.nd rfl (Or.inl rfl))
      (pss_cons (ps_set (i := 3) scDraws.nd rfl (Or.inl rfl) (pe_op op_mod (pe_callTy call_int1 rfl T.zint boot_int (pa_cons (pe_op op_add (pe_op op_add (pe_op op_mul (pv 3) pe_int) (pv 4)) pe_int) pa_nil)) pe_int))
    (pss_one (ps_expr (pe_bm PySem.F.plainAttrs_list PySem.F.slot_list_append PySem.F.type_list_append mt_append (pv 2) (pa_cons (pe_op op_mod (pe_callTy call_int1 rfl T.zint boot_int (pa_cons (pv 3) pa_nil)) pe_int) pa_nil))))))
    (pss_one (ps_ret (pe_slice sl_list (pv 2) po_none (po_some (pv 1))))))))), ?_⟩
  refine ⟨(by show 0 ≤ sizeLine; decide), fun r hr0 => ?_⟩
  refine ⟨_, rfl, a, _, rfl, .inl ((same_new hr0 _).seq hS), _, rfl, ?_, ?_, for_range
    (fun (k : Nat) σ H2 => ∃ (kk c t x : Option V) (mx : Int) (row : List Int), σ = [some (.ref a), some (.int (m : Int)), some (.ref r), some (.int mx), kk, c, t, x] ∧ Same H H2 ∧ H2 r = some (.lst (row.map V.int)) ∧ row.length ≤ 62 * k ∧ RowIn row)
    ⟨none, none, none, none, 7, [], rfl, same_new hr0 _, upd_same, by simp, fun x hx => by cases hx⟩ ?_ ?_⟩
  · omega
  · rw [List.length_map]
    omega
  · rintro k σ H2 hk ⟨kk, c, t, x, mx, row, rfl, s2, hrow, hl, hin⟩
    have hk' : (k : Int) < (ns.length : Int) := by
      rw [List.length_map] at hk
      omega
    obtain ⟨v, hv⟩ := at_int (ns := ns) (i := 0 + (k : Int)) (by omega) (by omega)
    refine ⟨_, rfl, _, rfl, a, _, _, _, rfl, rfl, s2.seq hS, hv, .inl ⟨_, rfl, _, rfl, ?_⟩⟩
    refine ⟨_, rfl, _, _, rfl, rfl, .inr (by decide), _, rfl, _, _, rfl, rfl, (show (0 : Int) < 1000003 by decide), _, _, rfl, rfl, _, rfl, _, _, rfl, rfl, .inl ⟨_, rfl, _, _, rfl, rfl, (show (0 : Int) < 65537 by decide), ?_⟩⟩
    refine ⟨fun σ H3 => ∃ (c : Option V) (mx x : Int) (t : Option V) (row : List Int), σ = [some (.ref a), some (.int (m : Int)), some (.ref r), some (.int mx), some (.int (0 + (k : Int))), c, some (.int x), t] ∧ Same H H3 ∧ H3 r = some (.lst (row.map V.int)) ∧ row.length ≤ 62 * k + 2 ∧ RowIn row, ?_, ?_⟩
    · refine ⟨_, rfl, _, _, rfl, rfl, ⟨by decide, by decide, by decide⟩, _, _, rfl, rfl, _, rfl, ?_⟩
      refine ite2 (fun _ => ?_) (fun _ => ?_)
      · exact ⟨_, rfl, _, _, _, _, row, rfl, s2, hrow, by omega, hin⟩
      · refine ⟨_, rfl, .inl ⟨rfl, _, SqL.of hrow⟩, _, rfl, _, _, rfl, rfl, (show (0 : Int) < 997 by decide), r, _, _, rfl, rfl, hrow, szl (by rw [List.length_map]; omega), ?_⟩
        have e3 : ∀ z : Int, upd H2 r (.lst (row.map V.int ++ [.int z])) r = some (.lst ((row ++ [z]).map V.int)) := fun z => by rw [upd_same, List.map_append]; rfl
        have s3 : ∀ z : Int, Same H (upd H2 r (.lst (row.map V.int ++ [.int z]))) := fun z => same_upd hr0 s2 _
        refine ⟨_, rfl, .inl ⟨rfl, _, SqL.of (e3 _)⟩, _, rfl, _, _, rfl, rfl, .inr (by decide), _, _, rfl, rfl, .inl ⟨_, rfl, _, _, rfl, rfl, (show (0 : Int) < 65521 by decide), _, _, rfl, rfl, (show (0 : Int) < 997 by decide), r, _, _, rfl, rfl, e3 _, szl (by rw [List.length_map, List.length_append]; show _ + 1 ≤ _; omega), ?_⟩⟩
        refine ⟨_, _, _, _, row ++ [_ % 997] ++ [_ % 997], rfl, same_upd hr0 (s3 _) _, by rw [upd_same]; simp only [List.map_append]; rfl, ?_, hin.snoc.snoc⟩
        rw [List.length_append, List.length_append]
        show row.length + 1 + 1 ≤ _
        omega
    rintro σ H3 ⟨c, mx, x, t, row, rfl, s3, hrow, hl, hin⟩
    refine ⟨60, rfl, by decide, by decide, for_range (fun (j : Nat) σ H3 => ∃ (c : Option V) (mx x : Int) (t : Option V) (row : List Int), σ = [some (.ref a), some (.int (m : Int)), some (.ref r), some (.int mx), some (.int (0 + (k : Int))), c, some (.int x), t] ∧ Same H H3 ∧ H3 r = some (.lst (row.map V.int)) ∧ row.length ≤ 62 * k + 2 + j ∧ RowIn row)
      ⟨_, _, _, _, row, rfl, s3, hrow, by omega, hin⟩ ?_ ?_⟩
    · rintro j σ H3 hj ⟨c, mx, x, t, row, rfl, s3, hrow, hl, hin⟩
      refine ⟨_, rfl, _, _, rfl, rfl, _, rfl, ?_⟩
      refine ite2 (fun _ => ?_) (fun _ => ?_)
      · refine ⟨_, rfl, .inl ⟨rfl, _, SqL.of hrow⟩, _, rfl, .inl ⟨_, rfl, _, _, rfl, rfl, (show (0 : Int) < 997 by decide), r, _, _, rfl, rfl, hrow, szl (by rw [List.length_map]; omega), ?_⟩⟩
        refine ⟨_, rfl, _, _, rfl, rfl, ⟨by decide, by decide⟩, ?_⟩
        refine ⟨_, _, _, _, row ++ [_ % 997], rfl, same_upd hr0 s3 _, by rw [upd_same, List.map_append]; rfl, ?_, hin.snoc⟩
        rw [List.length_append]
        show row.length + 1 ≤ _
        omega
      · exact ⟨_, _, _, _, row, rfl, s3, hrow, by omega, hin⟩
    · rintro σ H3 ⟨c, mx, x, t, row, rfl, s3, hrow, hl, hin⟩
      exact ⟨_, _, _, _, _, row, rfl, s3, hrow, by omega, hin⟩
  · rintro σ H2 ⟨kk, c, t, x, mx, row, rfl, s2, hrow, hl, hin⟩
    rw [List.length_map] at hl
    refine ⟨_, rfl, ?_⟩
    refine ⟨_, rfl, by omega, by omega, for_range (fun (j : Nat) σ H3 => ∃ (kk c t x : Option V) (mx : Int) (row : List Int), σ = [some (.ref a), some (.int (m : Int)), some (.ref r), some (.int mx), kk, c, t, x] ∧ Same H H3 ∧ H3 r = some (.lst (row.map V.int)) ∧ row.length ≤ 4000 + j ∧ j ≤ row.length ∧ RowIn row)
      ⟨_, _, _, _, _, row, rfl, s2, hrow, by omega, by omega, hin⟩ ?_ ?_⟩
    · rintro j σ H3 hj ⟨kk, c, t, x, mx, row, rfl, s3, hrow, hl, hl2, hin⟩
      have hj : j < ((m : Int)).toNat := hj
      refine ⟨_, rfl, _, _, rfl, rfl, .inr (by decide), _, rfl, _, _, rfl, rfl, _, _, rfl, rfl, .inl ⟨_, rfl, _, _, rfl, rfl, (show (0 : Int) < 65537 by decide), ?_⟩⟩
      refine ⟨_, rfl, .inl ⟨rfl, _, SqL.of hrow⟩, _, rfl, .inl ⟨_, rfl, _, _, rfl, rfl, (show (0 : Int) < 997 by decide), r, _, _, rfl, rfl, hrow, szl (by rw [List.length_map]; omega), ?_⟩⟩
      refine ⟨_, _, _, _, _, row ++ [_ % 997], rfl, same_upd hr0 s3 _, by rw [upd_same, List.map_append]; rfl, ?_, ?_, hin.snoc⟩
      · rw [List.length_append]
        show row.length + 1 ≤ _
        omega
      · rw [List.length_append]
        show j + 1 ≤ row.length + 1
        omega
    · rintro σ H3 ⟨kk, c, t, x, mx, row, rfl, s3, hrow, hl, hl2, hin⟩
      have hl2 : m ≤ row.length := by omega
      refine ⟨_, rfl, _, rfl, _, rfl, r, _, rfl, SqL.of hrow, fun p hp => ?_⟩
      rw [cut_take row m hl2]
      exact q p (row.take m) _ (s3.free hp) (same_upd (s3.free hp) s3 _) upd_same ⟨⟨by rw [List.length_take]; omega, by rw [List.length_take]; omega⟩, fun x hx => hin x (List.mem_of_mem_take hx)⟩
end
end Toy

set_option Elab.async false
set_option linter.all false
set_option maxRecDepth 100000
set_option maxHeartbeats 4000000
/-! Part X: own rules: a text times a number, d.get of a written dict, comprehensions over texts and lists. -/
namespace L2
open PySem PySem.Spec PyProof.Rows
def repS (z : Str) (n : Nat) : Str := ⟨(List.replicate n z.cps).foldl (· ++ ·) #[]⟩
theorem rep_size (a : Array Nat) : ∀ (n : Nat) (acc : Array Nat), ((List.replicate n a).foldl (· ++ ·) acc).size = acc.size + n * a.size
  | 0, acc => by simp
  | n + 1, acc => by
    rw [List.replicate_succ, List.foldl_cons, rep_size a n, Array.size_append, Nat.succ_mul]
    omega
/-- z * n -/
def rMulS : R2 := fun x y H Q => ∃ (z : Str) (n : Nat), x = .str z ∧ y = .int (n : Int) ∧ 2 ≤ n ∧ n ≤ 1000 ∧ 0 < z.length ∧ z.length ≤ 1000 ∧ Q (.str (repS z n)) H
section
variable {X : Cx}
theorem op_mulS : OpR X (binaryOp .Mult) rMulS := by
  intro pins s σ H x y v u Q I rx ry h
  obtain ⟨z, n, rfl, rfl, h2, h1000, hz, hz2, q⟩ := h
  obtain ⟨t, rfl⟩ := rx
  obtain ⟨t2, rfl⟩ := ry
  have c1 : ((n : Int) == 1 || z.length == 0) = false := by
    rw [Bool.or_eq_false_iff]
    exact ⟨beq_eq_false_iff_ne.mpr (by omega), beq_eq_false_iff_ne.mpr (by omega)⟩
  refine PySem.P.mul_str ?_ (fun _ _ => ?_) (fun _ _ => ?_) ?_
  · rw [decide_eq_false (by omega), decide_eq_false (by omega)] <;> rfl
  · have : (1000 : Int) ≤ (2 ^ 63 - 1) / (n : Int) := Int.le_ediv_of_mul_le (by omega) (by omega)
    omega
  · show decide (z.length * ((n : Int)).toNat > sizeLine) = false
    have a1 : z.length * ((n : Int)).toNat ≤ 1000 * 1000 := Nat.mul_le_mul hz2 (by omega)
    exact decide_eq_false (by rw [sizeLine_eq]; omega)
  · rw [if_neg (by omega), if_neg (by rw [c1]; decide)]
    have hlen := rep_size z.cps n #[]
    refine ⟨?_, .str _, H, I.tok _, ⟨_, rfl⟩, q⟩
    show ((List.replicate ((n : Int)).toNat z.cps).foldl (· ++ ·) #[]).size ≤ sizeLine
    rw [show ((n : Int)).toNat = n from Int.toNat_natCast n, hlen, sizeLine_eq]
    have a1 : n * z.cps.size ≤ 1000 * 1000 := Nat.mul_le_mul (by omega) hz2
    show 0 + n * z.cps.size ≤ _
    omega
end
/-- d.get(key), d a dict of the module with text keys -/
def tKGet (K : PySem.W.Frag) (d : Addr) (td ty : TE) : TE := fun σ H Q => td σ H fun x H1 => x = .ref d ∧ ty σ H1 fun y H2 => ∃ (z : Str) (r : Option Value) (v0 : V), y = .str z ∧ PySem.W.nsIn K d z = some r ∧ RelV v0 (r.getD .none) ∧ Q v0 H2
section
variable {X : Cx} {o e : Expr} {apos cpos : Pos} {td ty : TE} {d : Addr} {es : Array DictEntry} {n : Nat}
theorem pe_kget (D : KDict X.K X.w d es n) (ho : PE X o td) (he : PE X e ty) (m : M1 X o "get" apos e cpos) : PE X (.Call (.Attribute o "get" apos) [e] [] cpos) (tKGet X.K d td ty) := by
  refine ⟨fun pins s σ H Q I h => ?_⟩
  refine wpAny_Call_method m.base m.few m.line PySem.F.plainAttrs_dict PySem.F.slot_dict_get PySem.F.type_dict_get (thn (ho.run pins s σ H _ I h) fun u s1 ⟨x, H1, I1, rx, ex, q1⟩ => ?_)
  subst ex
  obtain rfl : u = Value.ref d := rx
  refine ⟨kd_type D I1, fun b q => ?_, ?_⟩
  · cases q
    obtain ⟨ob, h1, h2⟩ : ∃ ob, s1.heap.get? d = some ob ∧ ob.dict = none := ⟨_, I1.kIn d _ D.at_, rfl⟩
    exact ⟨ob, h1, h2⟩
  rw [m.trees]
  refine Calls.callWith_builtin rfl (Calls.evalArgs_plain (Calls.spliced_cons (thn (he.run pins s1 σ H1 _ I1 q1) fun iv s2 ⟨y, H2, I2, ry, z, r, v0, ey, en, rv, q2⟩ => Calls.spliced_nil ?_)))
  subst ey
  obtain ⟨t, rfl⟩ := ry
  refine call_meetsIn PySem.F.slot_dict_get (kd_type D I2) PySem.F.entry_dict_get (PySem.F.args_dict_get_2 _ _) (meets_dict_get (strKind X.prog X.w) d (PySem.strKind_is X.prog X.w z t) D.low) ⟨_, PySem.W.mapOf_K (prog := X.prog) I2.kIn D.at_ D.lit, ?_⟩
  rw [PySem.W.find_K D.at_ en]
  exact ⟨v0, H2, I2.tok _, rv, q2⟩
end
/-- a comprehension over a text -/
theorem lc_str {x : Str} {g : TG} {tt : TT} {te : TE} {vs : List Nat} {σ : St} {H1 : Hp} {D : Addr} {Qd : Hp → Prop} (Pv : Nat → Hp → Prop) (h0 : Pv 0 (upd H1 D (.lst [])))
    (hs : ∀ i c H, x.cps[i]? = some c → Pv i H → g (.str ⟨#[c]⟩) (wipe σ vs) H fun σ2 H2 => wipe σ2 vs = wipe σ vs ∧ tt σ2 H2 fun b H3 =>
      if b = true then te σ2 H3 fun y H4 => ∃ acc, H4 D = some (.lst acc) ∧ acc.length < sizeLine ∧ Pv (i + 1) (upd H4 D (.lst (acc ++ [y]))) else Pv (i + 1) H3) (hd : ∀ H, Pv x.cps.size H → Qd H) :
    ∃ W : Nat → Nat → Hp → Prop, (∃ m, W 0 m (upd H1 D (.lst []))) ∧ ∀ i m H, W i m H →
      ((Its x).stop i H ∧ Qd H) ∨ ((Its x).go i H ∧ ∃ Nx : Hp → Prop, (∀ H', Nx H' → ∃ m', m' < m ∧ W (i + 1) m' H') ∧ ∀ y H', (Its x).yld i H y H' → g y (wipe σ vs) H' fun σ2 H2 => wipe σ2 vs = wipe σ vs ∧ tt σ2 H2 fun b H3 =>
        if b = true then te σ2 H3 fun y H4 => ∃ acc, H4 D = some (.lst acc) ∧ acc.length < sizeLine ∧ Nx (upd H4 D (.lst (acc ++ [y]))) else Nx H3) := by
  refine ⟨fun i m H => m = x.cps.size - i ∧ i ≤ x.cps.size ∧ Pv i H, ⟨x.cps.size, by simp, Nat.zero_le _, h0⟩, ?_⟩
  rintro i m H ⟨rfl, hi, p⟩
  by_cases hlt : i < x.cps.size
  · refine .inr ⟨hlt, Pv (i + 1), fun H' p' => ⟨x.cps.size - (i + 1), by omega, rfl, hlt, p'⟩, fun y H' hy => ?_⟩
    obtain ⟨rfl, c, hc, rfl⟩ := hy
    exact hs i c _ hc p
  · have e : i = x.cps.size := by omega
    subst e
    exact .inl ⟨Nat.le_refl _, hd H p⟩
/-- a dict comprehension over a list that stays -/
theorem dc_list {K : PySem.W.Frag} {a : Addr} {xs : List V} {g : TG} {tt : TT} {tk tv : TE} {vs : List Nat} {σ : St} {H1 : Hp} {D : Addr} {Qd : Hp → Prop} (Pv : Nat → Hp → Prop) (h0 : Pv 0 (upd H1 D (.dK []))) (hl : ∀ i H, i ≤ xs.length → Pv i H → SqL K H a xs)
    (hs : ∀ i x H, xs[i]? = some x → Pv i H → g x (wipe σ vs) H fun σ2 H2 => wipe σ2 vs = wipe σ vs ∧ tt σ2 H2 fun b H3 =>
      if b = true then tk σ2 H3 fun y H4 => tv σ2 H4 fun z H5 => ∃ kvs k, y = kV k ∧ H5 D = some (.dK kvs) ∧ kvs.length < sizeLine ∧ Pv (i + 1) (upd H5 D (.dK (putK kvs k z))) else Pv (i + 1) H3) (hd : ∀ H, Pv xs.length H → Qd H) :
    ∃ W : Nat → Nat → Hp → Prop, (∃ m, W 0 m (upd H1 D (.dK []))) ∧ ∀ i m H, W i m H →
      ((Itl K a).stop i H ∧ Qd H) ∨ ((Itl K a).go i H ∧ ∃ Nx : Hp → Prop, (∀ H', Nx H' → ∃ m', m' < m ∧ W (i + 1) m' H') ∧ ∀ x H', (Itl K a).yld i H x H' → g x (wipe σ vs) H' fun σ2 H2 => wipe σ2 vs = wipe σ vs ∧ tt σ2 H2 fun b H3 =>
        if b = true then tk σ2 H3 fun y H4 => tv σ2 H4 fun z H5 => ∃ kvs k, y = kV k ∧ H5 D = some (.dK kvs) ∧ kvs.length < sizeLine ∧ Nx (upd H5 D (.dK (putK kvs k z))) else Nx H3) := by
  refine ⟨fun i m H => m = xs.length - i ∧ i ≤ xs.length ∧ Pv i H, ⟨xs.length, by simp, Nat.zero_le _, h0⟩, ?_⟩
  rintro i m H ⟨rfl, hi, p⟩
  have q := hl i H hi p
  by_cases hlt : i < xs.length
  · refine .inr ⟨⟨xs, xs[i], q, by simp [hlt]⟩, Pv (i + 1), fun H' p' => ⟨xs.length - (i + 1), by omega, rfl, hlt, p'⟩, fun x H' y => ?_⟩
    obtain ⟨e, y⟩ := y
    subst e
    exact hs i x _ (y xs q) p
  · have e : i = xs.length := by omega
    subst e
    exact .inl ⟨⟨xs, q, Nat.le_refl _⟩, hd H p⟩
end L2
namespace Toy
open PySem PySem.Spec PyProof.Rows L2
/-- list.extend of a tuple, whatever stands beside its items -/
theorem extend_tupW (l : Addr) (items : Array Value) (n : Nat) (b : Addr) (items2 : Array Value) (n2 : Nat) (dd2 : Option Addr) (sl2 : Array (Option Value)) (hs0 : ¬(!items.isEmpty && Builtin.List.listTooLong (items.size + items2.size)) = true) (hs1 : items.size ≤ sizeLine) (hs2 : items.size + items2.size ≤ sizeLine + 1) :
    Meets (Builtin.«list.extend» ⟨[.ref l, .ref b], []⟩) (fun _ R s => s.heap.get? l = some { cls := .type "list", dict := none, data := .seq items n, slots := #[] } ∧ s.heap.get? b = some { cls := .type "tuple", dict := dd2, data := .seq items2 n2, slots := sl2 } ∧ R (.ok (.ret Value.none)) { s with heap := s.heap.update l (Obj.mapSeq fun x => x ++ items2), toks := s.toks }) :=
  .of_wp fun prog w A R s h => by
    obtain ⟨hp, g, d, tk, os⟩ := s
    obtain ⟨hl, hb, h⟩ := h
    have f1 := AutoSeq1.idx_int
    have f2 := AutoSeq1.sub_tuple_tuple
    have f3 := AutoSeq1.sub_list_list
    have f4 := AutoSeq1.sub_tuple_list
    have f5 := AutoSeq1.sub_list_tuple
    have hz' : (items ++ items2).size ≤ sizeLine + 1 := by rw [Array.size_append]; exact hs2
    wp_walk using (wpAny_updateSeq hl rfl (hz := hs1) (_hz' := hz')), AutoSeq1.wpAny_loadPart' hl, AutoSeq1.wpAny_loadPart' hb
    exact ⟨_, rfl, h⟩
def rExtendT (K : PySem.W.Frag) : V → List V → Hp → VK → Prop := fun x vs H Q => ∃ l b xs zs, x = .ref l ∧ vs = [.ref b] ∧ H l = some (.lst xs) ∧ SqT K H b zs ∧ xs.length + zs.length ≤ sizeLine ∧ Q .non (upd H l (.lst (xs ++ zs)))
theorem mt_extendT {X : Cx} : MtM X "list.extend" (rExtendT X.K) := by
  intro pins s σ H x vs v us Q I rx rv h
  obtain ⟨l, b, xs, zs, rfl, rfl, hH, hB, hz, q⟩ := h
  cases rx
  obtain ⟨u, rfl, ru⟩ := rv.one
  cases ru
  obtain ⟨z, its, n, r, hl, e⟩ := I.lstM hH
  obtain ⟨its2, r2, ht2, hz2⟩ := I.tuple hB
  obtain ⟨⟨cls2, dd2, data2, sl2⟩, ho2, hc2, n2, hd2⟩ := id ht2
  simp only at hc2 hd2
  subst hc2 hd2
  have l1 := r.length
  have l2 := r2.length
  have hsz : its.toArray.size + its2.toArray.size ≤ sizeLine := by rw [List.size_toArray, List.size_toArray]; omega
  have hlong : ¬ (!its.toArray.isEmpty && Builtin.List.listTooLong (its.toArray.size + its2.toArray.size)) = true := by
    rw [notLongL hsz, Bool.and_false]
    exact Bool.false_ne_true
  refine call_meets PySem.F.slot_list_extend ⟨_, e, rfl⟩ PySem.F.entry_list_extend (PySem.F.args_list_extend_2 _ _)
    (extend_tupW l its.toArray n b its2.toArray n2 dd2 sl2 hlong (by rw [List.size_toArray]; omega) (by omega)) ⟨e, ho2, ?_⟩
  refine ⟨.non, _, I.lset (its' := its ++ its2) hH e (by simp) (r.append r2) ?_, rfl, q⟩
  rw [List.length_append]
  omega

end Toy

set_option Elab.async false
set_option linter.all false
set_option maxRecDepth 100000
set_option maxHeartbeats 4000000
/-! Part B: things in plain Lean, how they stand in the heap; what a term is. -/
namespace Toy
open PySem L2
inductive Dd
  | non
  | bl (b : Bool)
  | int (i : Int)
  | str (s : Str)
  | tup (l : List Dd)
  | lst (l : List Dd)
mutual
/-- such a thing stands in the heap as v, in tuples and in lists of B -/
def Dd.At (B : Addr → Prop) (H : Hp) : Dd → V → Prop
  | .non, v => v = .non
  | .bl b, v => v = .bl b
  | .int i, v => v = .int i
  | .str s, v => v = .str s ∧ s.length ≤ 1000
  | .tup l, v => ∃ a xs, v = .ref a ∧ H a = some (.tup xs) ∧ Dd.Ats B H l xs
  | .lst l, v => ∃ a xs, v = .ref a ∧ B a ∧ H a = some (.lst xs) ∧ Dd.Ats B H l xs
def Dd.Ats (B : Addr → Prop) (H : Hp) : List Dd → List V → Prop
  | [], xs => xs = []
  | k :: l, xs => ∃ x ys, xs = x :: ys ∧ k.At B H x ∧ Dd.Ats B H l ys
end
/-- a heap in which the tuples, and the lists of B, stand -/
def Fr (B : Addr → Prop) (H H' : Hp) : Prop := (∀ a xs, H a = some (.tup xs) → H' a = some (.tup xs)) ∧ ∀ a xs, B a → H a = some (.lst xs) → H' a = some (.lst xs)
theorem Fr.refl (B : Addr → Prop) (H : Hp) : Fr B H H := ⟨fun _ _ h => h, fun _ _ _ h => h⟩
theorem Fr.trans {B : Addr → Prop} {H1 H2 H3 : Hp} (h : Fr B H1 H2) (k : Fr B H2 H3) : Fr B H1 H3 := ⟨fun a xs e => k.1 a xs (h.1 a xs e), fun a xs b e => k.2 a xs b (h.2 a xs b e)⟩
theorem fr_same {B : Addr → Prop} {H H' : Hp} (s : Same H H') : Fr B H H' := ⟨fun _ _ e => s _ _ e, fun _ _ _ e => s _ _ e⟩
theorem fr_list {B : Addr → Prop} {H : Hp} {p : Addr} {ys : List V} {o : HO} (h : H p = some (.lst ys)) (n : ¬ B p) : Fr B H (upd H p o) :=
  ⟨fun a xs e => by rw [upd_ne (fun z => by rw [z, h] at e; cases e)]; exact e, fun a xs b e => by rw [upd_ne (fun z => n (by rw [← z]; exact b))]; exact e⟩
theorem fr_dict {B : Addr → Prop} {H : Hp} {p : Addr} {kvs : List (Key × V)} {o : HO} (h : H p = some (.dK kvs)) : Fr B H (upd H p o) :=
  ⟨fun a xs e => by rw [upd_ne (fun z => by rw [z, h] at e; cases e)]; exact e, fun a xs b e => by rw [upd_ne (fun z => by rw [z, h] at e; cases e)]; exact e⟩
theorem fr_keep {B : Addr → Prop} {p r : Addr} {C : Nat} {H H' : Hp} (k : Keep p H H') (d : DAt H p r C) : Fr B H H' :=
  ⟨fun a xs e => k _ _ (d.ne_tup e) e, fun a xs _ e => k _ _ (d.ne_list e) e⟩
theorem sameT {H1 H2 H3 : Hp} (h : Same H1 H2) (k : Same H2 H3) : Same H1 H3 := fun a u e => k a u (h a u e)
mutual
theorem Dd.At.keep {B : Addr → Prop} {H H' : Hp} : ∀ {k : Dd} {v : V}, Fr B H H' → k.At B H v → k.At B H' v
  | .non, _, _, h => h
  | .bl _, _, _, h => h
  | .int _, _, _, h => h
  | .str _, _, _, h => h
  | .tup l, _, t, ⟨a, xs, e, h, hs⟩ => ⟨a, xs, e, t.1 _ _ h, Dd.Ats.keep t hs⟩
  | .lst l, _, t, ⟨a, xs, e, b, h, hs⟩ => ⟨a, xs, e, b, t.2 _ _ b h, Dd.Ats.keep t hs⟩
theorem Dd.Ats.keep {B : Addr → Prop} {H H' : Hp} : ∀ {l : List Dd} {xs : List V}, Fr B H H' → Dd.Ats B H l xs → Dd.Ats B H' l xs
  | [], _, _, h => h
  | k :: l, _, t, ⟨x, ys, e, h, hs⟩ => ⟨x, ys, e, Dd.At.keep t h, Dd.Ats.keep t hs⟩
end
mutual
theorem Dd.At.weak {B C : Addr → Prop} {H : Hp} (hBC : ∀ a xs, H a = some (.lst xs) → B a → C a) : ∀ {k : Dd} {v : V}, k.At B H v → k.At C H v
  | .non, _, h => h
  | .bl _, _, h => h
  | .int _, _, h => h
  | .str _, _, h => h
  | .tup l, _, ⟨a, xs, e, h, hs⟩ => ⟨a, xs, e, h, Dd.Ats.weak hBC hs⟩
  | .lst l, _, ⟨a, xs, e, b, h, hs⟩ => ⟨a, xs, e, hBC _ _ h b, h, Dd.Ats.weak hBC hs⟩
theorem Dd.Ats.weak {B C : Addr → Prop} {H : Hp} (hBC : ∀ a xs, H a = some (.lst xs) → B a → C a) : ∀ {l : List Dd} {xs : List V}, Dd.Ats B H l xs → Dd.Ats C H l xs
  | [], _, h => h
  | k :: l, _, ⟨x, ys, e, h, hs⟩ => ⟨x, ys, e, Dd.At.weak hBC h, Dd.Ats.weak hBC hs⟩
end
/-- what stands in this heap -/
def Ex (H : Hp) (a : Addr) : Prop := H a ≠ none
theorem Dd.At.here {B : Addr → Prop} {H : Hp} {k : Dd} {v : V} (h : k.At B H v) : k.At (Ex H) H v := h.weak fun a xs e _ => by unfold Ex; rw [e]; exact fun z => by cases z
theorem Dd.Ats.here {B : Addr → Prop} {H : Hp} {l : List Dd} {xs : List V} (h : Dd.Ats B H l xs) : Dd.Ats (Ex H) H l xs := h.weak fun a xs e _ => by unfold Ex; rw [e]; exact fun z => by cases z
theorem ats_len {B : Addr → Prop} {H : Hp} : ∀ {l : List Dd} {xs : List V}, Dd.Ats B H l xs → xs.length = l.length
  | [], _, h => by cases h; rfl
  | k :: l, _, ⟨x, ys, e, h, hs⟩ => by
    cases e
    show ys.length + 1 = l.length + 1
    rw [ats_len hs]
theorem ats_app {B : Addr → Prop} {H : Hp} : ∀ {l m : List Dd} {xs ys : List V}, Dd.Ats B H l xs → Dd.Ats B H m ys → Dd.Ats B H (l ++ m) (xs ++ ys)
  | [], m, xs, ys, h, k => by
    cases h
    exact k
  | t :: l, m, _, ys, ⟨x, zs, e, h, hs⟩, k => by
    cases e
    exact ⟨x, zs ++ ys, rfl, h, ats_app hs k⟩
theorem ats_one {B : Addr → Prop} {H : Hp} {k : Dd} {v : V} (h : k.At B H v) : Dd.Ats B H [k] [v] := ⟨v, [], rfl, h, rfl⟩
theorem ats_get {B : Addr → Prop} {H : Hp} : ∀ {l : List Dd} {xs : List V} {i : Nat} {x : V}, Dd.Ats B H l xs → xs[i]? = some x → ∃ k, l[i]? = some k ∧ k.At B H x
  | [], _, i, x, h, e => by cases h; simp at e
  | k :: l, _, 0, x, ⟨y, ys, e, h, hs⟩, ex => by
    cases e
    cases ex
    exact ⟨k, rfl, h⟩
  | k :: l, _, i + 1, x, ⟨y, ys, e, h, hs⟩, ex => by
    cases e
    exact ats_get (l := l) (i := i) hs ex
theorem ats_getI {B : Addr → Prop} {H : Hp} : ∀ {l : List Dd} {xs : List V} {i : Nat} {k : Dd}, Dd.Ats B H l xs → l[i]? = some k → ∃ x, xs[i]? = some x ∧ k.At B H x
  | [], _, i, x, h, e => by simp at e
  | k :: l, _, 0, x, ⟨y, ys, e, h, hs⟩, ex => by
    cases e
    cases ex
    exact ⟨y, rfl, h⟩
  | k :: l, _, i + 1, x, ⟨y, ys, e, h, hs⟩, ex => by
    cases e
    exact ats_getI (l := l) (i := i) hs ex
theorem ats_snoc {B : Addr → Prop} {H : Hp} : ∀ {l : List Dd} {k : Dd} {xs : List V}, Dd.Ats B H (l ++ [k]) xs → ∃ ys y, xs = ys ++ [y] ∧ Dd.Ats B H l ys ∧ k.At B H y
  | [], k, xs, ⟨x, ys, e, h, hs⟩ => by
    cases e
    cases (show ys = [] from hs)
    exact ⟨[], x, rfl, rfl, h⟩
  | t :: l, k, xs, ⟨x, ys, e, h, hs⟩ => by
    cases e
    obtain ⟨zs, y, e2, h2, h3⟩ := ats_snoc hs
    exact ⟨x :: zs, y, by rw [e2]; rfl, ⟨x, zs, rfl, h, h2⟩, h3⟩
theorem ats_rev {B : Addr → Prop} {H : Hp} : ∀ {l : List Dd} {xs : List V}, Dd.Ats B H l xs → Dd.Ats B H l.reverse xs.reverse
  | [], _, h => by cases h; rfl
  | k :: l, _, ⟨x, ys, e, h, hs⟩ => by
    cases e
    rw [List.reverse_cons, List.reverse_cons]
    exact ats_app (ats_rev hs) (ats_one h)
theorem tYes_if {σ : L2.St} {H : Hp} {A B : Hp → Prop} (h : A H) : tYes σ H (fun b H3 => if b = true then A H3 else B H3) := by
  show if true = true then A H else B H
  rw [if_pos rfl]
  exact h
theorem at0 (x : V) (l : List V) : atI (x :: l) 0 = some x := atI_nat (j := 0) rfl
theorem at1 (x y : V) (l : List V) : atI (x :: y :: l) 1 = some y := atI_nat (j := 1) rfl
theorem at2 (x y z : V) (l : List V) : atI (x :: y :: z :: l) 2 = some z := atI_nat (j := 2) rfl
theorem at3 (x y z u : V) (l : List V) : atI (x :: y :: z :: u :: l) 3 = some u := atI_nat (j := 3) rfl
theorem nself (v : V) : (!decide (v = v)) = false := by simp
mutual
def Dd.sz : Dd → Nat
  | .tup l => 1 + Dd.szs l
  | .lst l => 1 + Dd.szs l
  | _ => 1
def Dd.szs : List Dd → Nat
  | [] => 0
  | k :: l => k.sz + Dd.szs l
end
theorem sz_pos : ∀ k : Dd, 1 ≤ k.sz
  | .non => Nat.le_refl _
  | .bl _ => Nat.le_refl _
  | .int _ => Nat.le_refl _
  | .str _ => Nat.le_refl _
  | .tup l => Nat.le_add_right 1 _
  | .lst l => Nat.le_add_right 1 _
theorem szs_app : ∀ l m : List Dd, Dd.szs (l ++ m) = Dd.szs l + Dd.szs m
  | [], m => by simp [Dd.szs]
  | k :: l, m => by
    show k.sz + Dd.szs (l ++ m) = k.sz + Dd.szs l + Dd.szs m
    rw [szs_app l m]
    omega
theorem szs_len : ∀ l : List Dd, l.length ≤ Dd.szs l
  | [] => Nat.le_refl _
  | k :: l => by
    have h1 := sz_pos k
    have h2 := szs_len l
    show l.length + 1 ≤ k.sz + Dd.szs l
    omega
theorem szs_mem : ∀ {l : List Dd} {k : Dd}, k ∈ l → k.sz ≤ Dd.szs l
  | t :: l, k, h => by
    show k.sz ≤ t.sz + Dd.szs l
    rcases List.mem_cons.mp h with e | e
    · rw [e]; omega
    · have := szs_mem e; omega
/-! ### what a term is -/
def isName : Dd → Bool
  | .str s => decide (1 ≤ s.length) && decide (s.length ≤ 80) && s.cps.toList.all fun c => decide (33 ≤ c) && decide (c ≤ 126) && decide (c ≠ 37)
  | _ => false
def isInt : Dd → Bool
  | .int _ => true
  | _ => false
def numIn (lo hi : Int) : Dd → Bool
  | .int i => decide (lo ≤ i) && decide (i ≤ hi)
  | _ => false
def cNum : Dd → Bool := numIn (-1000000000000000) 1000000000000000
def isTup : Dd → Bool
  | .tup _ => true
  | _ => false
def isRow (n : Nat) : Dd → Bool
  | .tup l => decide (l.length = n)
  | _ => false
def areRows (n : Nat) : Dd → Bool
  | .tup l => l.all (isRow n)
  | _ => false
/-- as often as they are the first of their kind -/
def ddK : List Key → List Key → List Key
  | acc, [] => acc
  | acc, k :: ks => ddK (if (acc.any fun j => decide (j = k)) = true then acc else acc ++ [k]) ks
def distK (ks : List Key) : Bool := decide ((ddK [] ks).length = ks.length)
def keyD : Dd → Key
  | .str s => Sum.inr s
  | .int i => Sum.inl i
  | _ => Sum.inl 0
def areNames : Dd → Bool
  | .tup l => l.all isName && distK (l.map keyD)
  | _ => false
def nth (i : Nat) : Dd → Dd
  | .tup l => l.getD i .non
  | _ => .non
def tl : Dd → List Dd
  | .tup l => l
  | _ => []
def isDflt : Dd → Bool
  | .non => true
  | .tup l => decide (l.length = 2) && isName (l.getD 0 .non)
  | _ => false
def signs : List Str := ["+", "-", "*", "div", "mod", "==", "<", "<="]
def isSign : Dd → Bool
  | .str s => decide (s ∈ signs)
  | _ => false
def arg (i : Nat) (r : List Dd) : Dd := r.getD i .non
def fNum (r : List Dd) : Bool := decide (r.length = 1) && cNum (arg 0 r)
def fVar (r : List Dd) : Bool := decide (r.length = 1) && isName (arg 0 r)
def fApp (r : List Dd) : Bool := decide (r.length = 2)
def fLam (r : List Dd) : Bool := decide (r.length = 2) && isName (arg 0 r)
def fLet (r : List Dd) : Bool := decide (r.length = 2) && areRows 2 (arg 0 r) && (decide (0 < (tl (arg 0 r)).length) && areNames (.tup ((tl (arg 0 r)).map (nth 0))))
def fSeq (r : List Dd) : Bool := decide (r.length = 3) && isName (arg 0 r)
def fCon (r : List Dd) : Bool := decide (r.length = 2) && (numIn 0 1000 (arg 0 r) && isTup (arg 1 r))
def fCase (r : List Dd) : Bool := decide (r.length = 3) && areRows 3 (arg 1 r) && isDflt (arg 2 r) && (tl (arg 1 r)).all fun q => numIn 0 1000 (nth 0 q) && areNames (nth 1 q)
def fPick (r : List Dd) : Bool := decide (r.length = 3) && areRows 2 (arg 1 r) && isDflt (arg 2 r) && (((tl (arg 1 r)).map (nth 0)).all cNum && distK (((tl (arg 1 r)).map (nth 0)).map keyD))
def fPrim (r : List Dd) : Bool := decide (r.length = 3) && isSign (arg 0 r)
def fNote (r : List Dd) : Bool := decide (r.length = 2) && numIn 0 1000000000000 (arg 0 r)
def formW (w : Str) (r : List Dd) : Bool :=
  if w = "num" then fNum r else if w = "var" then fVar r else if w = "app" then fApp r else if w = "lam" then fLam r else if w = "let" then fLet r else if w = "seq" then fSeq r
  else if w = "con" then fCon r else if w = "case" then fCase r else if w = "pick" then fPick r else if w = "prim" then fPrim r else if w = "note" then fNote r else false
def formB : Dd → Bool
  | .tup (.str w :: r) => formW w r
  | _ => false
def dfltP (d : Dd) : List Dd := match d with
  | .non => []
  | d => [nth 1 d]
def lastD : Dd → Dd
  | .tup l => l.getLastD .non
  | _ => .non
def gLet (r : List Dd) : List Dd := (tl (arg 0 r)).map (nth 1) ++ [arg 1 r]
def gChoice (r : List Dd) : List Dd := arg 0 r :: ((tl (arg 1 r)).map lastD ++ dfltP (arg 2 r))
def partsW (w : Str) (r : List Dd) : List Dd :=
  if w = "app" then r else if w = "lam" then [arg 1 r] else if w = "let" then gLet r else if w = "seq" then r.drop 1
  else if w = "con" then tl (arg 1 r) else if w = "case" then gChoice r else if w = "pick" then gChoice r
  else if w = "prim" then r.drop 1 else if w = "note" then [arg 1 r] else []
def partsD : Dd → List Dd
  | .tup (.str w :: r) => partsW w r
  | _ => []
def isT : Nat → Dd → Bool
  | 0, _ => false
  | n + 1, k => formB k && (partsD k).all (isT n)
end Toy

set_option Elab.async false
set_option linter.all false
set_option maxRecDepth 100000
set_option maxHeartbeats 4000000
/-! Part C: names, numbers, rows. -/
namespace Toy
open PySem L2
open PyProof.Rows (envOfC)
theorem boot_ord : bootBuiltins "ord" = some (.builtin "ord") := by decide +kernel
theorem boot_all : bootBuiltins "all" = some (.builtin "all") := by decide +kernel
theorem boot_bool : bootBuiltins "bool" = some (.type "bool") := by decide +kernel
theorem boot_str : bootBuiltins "str" = some (.type "str") := by decide +kernel
theorem boot_tuple : bootBuiltins "tuple" = some (.type "tuple") := by decide +kernel
def Dd.tyN : Dd → String
  | .non => "NoneType"
  | .bl _ => "bool"
  | .int _ => "int"
  | .str _ => "str"
  | .tup _ => "tuple"
  | .lst _ => "list"
theorem ty_of {K : PySem.W.Frag} {B : Addr → Prop} {H : Hp} {k : Dd} {v : V} (h : k.At B H v) : TyX K H v (.type k.tyN) := by
  cases k with
  | non => cases h; exact .base .non
  | bl b => cases h; exact .base (.bl b)
  | int i => cases h; exact .base (.int i)
  | str s => cases h.1; exact .base (.str s)
  | tup l => obtain ⟨a, xs, rfl, ha, _⟩ := h; exact .base (.tup ha)
  | lst l => obtain ⟨a, xs, rfl, _, ha, _⟩ := h; exact .base (.lst ha)
def isStr : Dd → Bool
  | .str _ => true
  | _ => false
def isBool : Dd → Bool
  | .bl _ => true
  | _ => false
def isIntB : Dd → Bool
  | .int _ => true
  | .bl _ => true
  | _ => false
theorem kit_str {K : PySem.W.Frag} (k : Dd) : PySem.W.kitOne K (.type k.tyN) (.type "str") = some (isStr k) := by
  cases k with
  | non => exact kit_ty (a := "NoneType") (b := "str") (r := false) (by decide +kernel)
  | bl b => exact kit_ty (a := "bool") (b := "str") (r := false) (by decide +kernel)
  | int i => exact kit_ty (a := "int") (b := "str") (r := false) (by decide +kernel)
  | str s => exact kit_ty (a := "str") (b := "str") (r := true) (by decide +kernel)
  | tup l => exact kit_ty (a := "tuple") (b := "str") (r := false) (by decide +kernel)
  | lst l => exact kit_ty (a := "list") (b := "str") (r := false) (by decide +kernel)
theorem kit_tup {K : PySem.W.Frag} (k : Dd) : PySem.W.kitOne K (.type k.tyN) (.type "tuple") = some (isTup k) := by
  cases k with
  | non => exact kit_ty (a := "NoneType") (b := "tuple") (r := false) (by decide +kernel)
  | bl b => exact kit_ty (a := "bool") (b := "tuple") (r := false) (by decide +kernel)
  | int i => exact kit_ty (a := "int") (b := "tuple") (r := false) (by decide +kernel)
  | str s => exact kit_ty (a := "str") (b := "tuple") (r := false) (by decide +kernel)
  | tup l => exact kit_ty (a := "tuple") (b := "tuple") (r := true) (by decide +kernel)
  | lst l => exact kit_ty (a := "list") (b := "tuple") (r := false) (by decide +kernel)
theorem kit_int {K : PySem.W.Frag} (k : Dd) : PySem.W.kitOne K (.type k.tyN) (.type "int") = some (isIntB k) := by
  cases k with
  | non => exact kit_ty (a := "NoneType") (b := "int") (r := false) (by decide +kernel)
  | bl b => exact kit_ty (a := "bool") (b := "int") (r := true) (by decide +kernel)
  | int i => exact kit_ty (a := "int") (b := "int") (r := true) (by decide +kernel)
  | str s => exact kit_ty (a := "str") (b := "int") (r := false) (by decide +kernel)
  | tup l => exact kit_ty (a := "tuple") (b := "int") (r := false) (by decide +kernel)
  | lst l => exact kit_ty (a := "list") (b := "int") (r := false) (by decide +kernel)
theorem kit_bool {K : PySem.W.Frag} (k : Dd) : PySem.W.kitOne K (.type k.tyN) (.type "bool") = some (isBool k) := by
  cases k with
  | non => exact kit_ty (a := "NoneType") (b := "bool") (r := false) (by decide +kernel)
  | bl b => exact kit_ty (a := "bool") (b := "bool") (r := true) (by decide +kernel)
  | int i => exact kit_ty (a := "int") (b := "bool") (r := false) (by decide +kernel)
  | str s => exact kit_ty (a := "str") (b := "bool") (r := false) (by decide +kernel)
  | tup l => exact kit_ty (a := "tuple") (b := "bool") (r := false) (by decide +kernel)
  | lst l => exact kit_ty (a := "list") (b := "bool") (r := false) (by decide +kernel)
theorem inV_strs (z : Str) : ∀ l : List Str, inV (.str z) (l.map V.str) = decide (z ∈ l)
  | [] => rfl
  | a :: l => by
    show ((a == z) || inV (.str z) (l.map V.str)) = _
    rw [inV_strs z l]
    by_cases e : a = z
    · subst e
      simp
    · rw [beq_eq_false_iff_ne.mpr e, Bool.false_or]
      exact decide_eq_decide.mpr ⟨fun h => List.mem_cons_of_mem _ h, fun h => (List.mem_cons.mp h).resolve_left fun z => e z.symm⟩
theorem chainV {σ : L2.St} {H : Hp} {Q : VK} {a n c : Int} {ta tb tc : TE} (ha : ∀ R : VK, R (.int a) H → ta σ H R) (hb : ∀ R : VK, R (.int n) H → tb σ H R) (hc : ∀ R : VK, R (.int c) H → tc σ H R) (h : Q (.bl (decide (a ≤ n) && decide (n ≤ c))) H) :
    tChain (rI0 fun i j => V.bl (decide (i ≤ j))) (rI0 fun i j => V.bl (decide (i ≤ j))) ta tb tc σ H Q := by
  refine ha _ (hb _ ⟨_, _, rfl, rfl, _, rfl, ?_⟩)
  cases e : decide (a ≤ n) with
  | true =>
    rw [e, Bool.true_and] at h
    refine iteT (hc _ ⟨_, _, rfl, rfl, h⟩)
  | false =>
    rw [e, Bool.false_and] at h
    exact iteF h
def codeOk (c : Nat) : Bool := decide (33 ≤ c) && decide (c ≤ 126) && decide (c ≠ 37)
theorem code_read {σ : L2.St} {H : Hp} {Q : VK} {i : Nat} (c : Nat) (hs : σ[i]? = some (some (.int (c : Int)))) (h : Q (.bl (codeOk c)) H) :
    tAndV (tChain (rI0 fun i j => V.bl (decide (i ≤ j))) (rI0 fun i j => V.bl (decide (i ≤ j))) (tC (V.int 33)) (tVar i) (tC (V.int 126))) (tOp rNe (tVar i) (tC (V.int 37))) σ H Q := by
  refine chainV (a := 33) (n := (c : Int)) (c := 126) (fun R hR => hR) (fun R hR => ⟨_, hs, hR⟩) (fun R hR => hR) ?_
  refine ⟨_, rfl, ?_⟩
  have e1 : codeOk c = ((decide ((33 : Int) ≤ (c : Int)) && decide ((c : Int) ≤ 126)) && !decide (V.int (c : Int) = V.int 37)) := by
    unfold codeOk
    congr 1
    · congr 1
      · exact decide_eq_decide.mpr (by omega)
      · exact decide_eq_decide.mpr (by omega)
    · by_cases z : c = 37
      · subst z
        decide
      · rw [decide_eq_true z, decide_eq_false (fun y => z (by have := V.int.inj y; omega))]
        rfl
  rw [e1] at h
  cases hb : (decide ((33 : Int) ≤ (c : Int)) && decide ((c : Int) ≤ 126)) with
  | true =>
    rw [hb, Bool.true_and] at h
    refine iteT ?_
    exact ⟨_, hs, rfl, h⟩
  | false =>
    rw [hb, Bool.false_and] at h
    exact iteF h
structure TxtF (K : PySem.W.Frag) (mg : Str → Option Value) (aS : Addr) : Prop where
  zisinstance : mg "isinstance" = none
  zint : mg "int" = none
  zstr : mg "str" = none
  zbool : mg "bool" = none
  ztuple : mg "tuple" = none
  zlen : mg "len" = none
  zord : mg "ord" = none
  zall : mg "all" = none
  gLONGEST_NAME : ∃ u, mg "LONGEST_NAME" = some u ∧ RelV (.int 80) u
  gLARGEST_NUMBER : ∃ u, mg "LARGEST_NUMBER" = some u ∧ RelV (.int 1000000000000000) u
  gLARGEST_TAG : ∃ u, mg "LARGEST_TAG" = some u ∧ RelV (.int 1000) u
  gLARGEST_NOTE : ∃ u, mg "LARGEST_NOTE" = some u ∧ RelV (.int 1000000000000) u
  gFIRST_CODE : ∃ u, mg "FIRST_CODE" = some u ∧ RelV (.int 33) u
  gLAST_CODE : ∃ u, mg "LAST_CODE" = some u ∧ RelV (.int 126) u
  gPERCENT_CODE : ∃ u, mg "PERCENT_CODE" = some u ∧ RelV (.int 37) u
  gSIGNS : ∃ u, mg "SIGNS" = some u ∧ RelV (.ref aS) u
  kSIGNS : ∀ H : Hp, SqT K H aS (signs.map V.str)
section
variable {P : Program} {w : World} {K : PySem.W.Frag} {mg : Str → Option Value} {base : Heap} {aS : Addr}
/-- a def that tells something of a thing -/
def spB (g : Dd → Bool) (P : Dd → Prop) : Sp := fun vs H Q _ => ∃ (B : Addr → Prop) (v : V) (k : Dd), vs = [v] ∧ k.At B H v ∧ P k ∧ ∀ H', Same H H' → Q (.bl (g k)) H'
abbrev sInteger : Stmt := topS 12
theorem scInteger : FnScope ["thing"] ["thing"] (defScope sInteger) := ⟨rfl, rfl, rfl, by decide +kernel, rfl, by decide +kernel, by decide +kernel⟩
theorem c_integer {f : Addr} {fd : FuncData} (T : TxtF K mg aS) (F : Fun K "is_integer" "is_integer" sInteger f fd) (b : Binds K fd ["thing"] []) (hm : mg "is_integer" = some (.ref f)) : C8.Cal P w K mg base 1 "is_integer" (spB isInt fun _ => True) [] := by
  refine cal_of F hm b scInteger (fun vs H Q E h => ?_) (fun cdv A outer s H vs Q E hr h => ?_)
  · obtain ⟨B, v, k, rfl, _⟩ := h
    rfl
  obtain ⟨B, v, k, rfl, hat, _, q⟩ := h
  refine ⟨_, (pss_one (ps_ret (pe_and (pe_callB call_isi rfl T.zisinstance boot_isinstance (pa_cons (pv 0) (pa_cons (pe_bltn (v := .ty "int") rfl T.zint boot_int rfl) pa_nil))) (pe_one (pe_not (pe_callB call_isi rfl T.zisinstance boot_isinstance (pa_cons (pv 0) (pa_cons (pe_bltn (v := .ty "bool") rfl T.zbool boot_bool rfl) pa_nil)))))))), ?_⟩
  refine ⟨_, rfl, v, .ty "int", _, _, _, rfl, .ty "int", ty_of hat, kit_int k, ?_⟩
  cases k with
  | int i => exact ⟨_, rfl, _, rfl, v, .ty "bool", _, _, _, rfl, .ty "bool", ty_of hat, kit_bool _, _, rfl, q H fun _ _ e => e⟩
  | bl b => exact ⟨_, rfl, _, rfl, v, .ty "bool", _, _, _, rfl, .ty "bool", ty_of hat, kit_bool _, _, rfl, q H fun _ _ e => e⟩
  | non => exact ⟨_, rfl, q H fun _ _ e => e⟩
  | str s => exact ⟨_, rfl, q H fun _ _ e => e⟩
  | tup l => exact ⟨_, rfl, q H fun _ _ e => e⟩
  | lst l => exact ⟨_, rfl, q H fun _ _ e => e⟩
abbrev sName : Stmt := topS 10
theorem scName : FnScope ["thing", "codes", "letter", "code"] ["thing"] (defScope sName) := ⟨rfl, rfl, rfl, by decide +kernel, rfl, by decide +kernel, by decide +kernel⟩
theorem c_name {f : Addr} {fd : FuncData} (T : TxtF K mg aS) (F : Fun K "is_name" "is_name" sName f fd) (b : Binds K fd ["thing"] []) (hm : mg "is_name" = some (.ref f)) : C8.Cal P w K mg base 1 "is_name" (spB isName fun _ => True) [] := by
  refine cal_of F hm b scName (fun vs H Q E h => ?_) (fun cdv A outer s H vs Q E hr h => ?_)
  · obtain ⟨B, v, k, rfl, _⟩ := h
    rfl
  obtain ⟨B, v, k, rfl, hat, _, q⟩ := h
  refine ⟨_, (pss_cons (ps_if (PW.pt (pw_or (pt_not (pt_val (pe_callB call_isi rfl T.zisinstance boot_isinstance (pa_cons (pv 0) (pa_cons (pe_bltn (v := .ty "str") rfl T.zstr boot_str rfl) pa_nil))))) (pw_or1 (pt_not (pt_chain op_le op_le pe_int (pe_callB call_len_str rfl T.zlen PySem.boot_len (pa_cons (pv 0) pa_nil)) (C8.pe_gc rfl T.gLONGEST_NAME))))))
      (pss_one (ps_ret pe_bl))
      pss_nil)
    (pss_cons (ps_setLc (i := 1) (own := [("letter", 2)]) (g := gName 2) (tt := tYes) rfl scName.nd rfl rfl (sw_true rfl rfl rfl (by decide +kernel)) (pi_str (pv 0)) (blkOk_by (own := [("letter", 2)]) (N := ["thing", "codes", "letter", "code"]) (sc := defScope sName) (by decide +kernel)) (fun _ _ _ _ _ => (pg_name (i := 2) scName.nd rfl (Or.inl rfl))) (fun _ _ _ _ _ => pts_nil) (fun _ _ _ _ _ => (pe_callB call_ord rfl T.zord boot_ord (pa_cons (pv 2) pa_nil))))
    (pss_one (ps_ret (pe_callB (cr_all rfl) rfl T.zall boot_all (pa_cons (pe_lc (own := [("code", 3)]) (g := gName 3) (tt := tYes) rfl scName.nd (pi_list (pv 1)) (blkOk_by (own := [("code", 3)]) (N := ["thing", "codes", "letter", "code"]) (sc := defScope sName) (by decide +kernel)) (fun _ _ _ _ _ => (pg_name (i := 3) scName.nd rfl (Or.inl rfl))) (fun _ _ _ _ _ => pts_nil) (fun _ _ _ _ _ => (pe_and (pe_chain op_le op_le (C8.pe_gc rfl T.gFIRST_CODE) (pv 3) (C8.pe_gc rfl T.gLAST_CODE)) (pe_one (pe_cmpR op_ne (pv 3) (C8.pe_gc rfl T.gPERCENT_CODE) (nomark _)))))) pa_nil)))))), ?_⟩
  refine ⟨_, rfl, v, .ty "str", _, _, _, rfl, .ty "str", ty_of hat, kit_str k, ?_⟩
  have same : Same H H := fun _ _ e => e
  cases k with
  | str s =>
    obtain ⟨hv, hsl⟩ := (show v = .str s ∧ s.length ≤ 1000 from hat)
    cases hv
    refine ⟨_, rfl, ?_⟩
    refine iteF ?_
    have hz : s.length ≤ sizeLine := by have := szl (n := 1000) (by decide); omega
    refine chainV (a := 1) (n := (s.length : Int)) (c := 80) (fun R hR => hR) (fun R hR => ⟨_, rfl, s, rfl, hz, hR⟩) (fun R hR => hR) ?_
    refine ⟨_, rfl, ?_⟩
    have eN : isName (.str s) = ((decide (1 ≤ (s.length : Int)) && decide ((s.length : Int) ≤ 80)) && s.cps.toList.all codeOk) := by
      show (decide (1 ≤ s.length) && decide (s.length ≤ 80) && s.cps.toList.all codeOk) = _
      congr 2
      · exact decide_eq_decide.mpr (by omega)
      · exact decide_eq_decide.mpr (by omega)
    cases hb : (decide (1 ≤ (s.length : Int)) && decide ((s.length : Int) ≤ 80)) with
    | false =>
      rw [hb, Bool.false_and] at eN
      refine iteT ?_
      have q' := q H same
      rw [eN] at q'
      exact q'
    | true =>
      rw [hb, Bool.true_and] at eN
      refine iteF ?_
      refine ⟨_, rfl, s, rfl, fun D hD => ?_⟩
      refine lc_str (fun i G => Same H G ∧ G D = some (.lst ((s.cps.toList.take i).map fun (c : Nat) => V.int (c : Int)))) ⟨same_new hD _, upd_same⟩ ?_ ?_
      · rintro i c G hc ⟨h1, h2⟩
        refine ⟨rfl, ?_⟩
        refine tYes_if ?_
        have hil : i < s.cps.toList.length := by rw [Array.length_toList]; exact (Array.getElem?_eq_some_iff.mp hc).1
        refine ⟨_, rfl, _, rfl, rfl, _, h2, ?_, same_upd hD h1 _, ?_⟩
        · rw [List.length_map, List.length_take]
          have := szl (n := 1000) (by decide)
          have hl2 : s.cps.toList.length = s.length := Array.length_toList
          omega
        · rw [upd_same, List.take_add_one, Array.getElem?_toList, hc, List.map_append]
          rfl
      rintro G ⟨h1, h2⟩
      rw [← Array.length_toList, List.take_length] at h2
      refine ⟨_, rfl, D, rfl, ⟨_, SqL.of h2⟩, fun D2 hD2 => ?_⟩
      refine lc_list (K := K) (a := D) (xs := s.cps.toList.map fun (c : Nat) => V.int (c : Int)) (fun i G2 => Same G G2 ∧ G2 D2 = some (.lst (((s.cps.toList.take i).map codeOk).map V.bl))) ⟨same_new hD2 _, upd_same⟩ (fun i G2 hi ⟨h3, h4⟩ => SqL.of (h3 _ _ h2)) ?_ ?_
      · rintro i x G2 hx ⟨h3, h4⟩
        rw [List.getElem?_map] at hx
        obtain ⟨c, hc, rfl⟩ := Option.map_eq_some_iff.mp hx
        have hil : i < s.cps.toList.length := (List.getElem?_eq_some_iff.mp hc).1
        refine ⟨rfl, ?_⟩
        refine tYes_if ?_
        refine code_read c rfl ?_
        refine ⟨_, h4, ?_, same_upd hD2 h3 _, ?_⟩
        · rw [List.length_map, List.length_map, List.length_take]
          have := szl (n := 1000) (by decide)
          have hl2 : s.cps.toList.length = s.length := Array.length_toList
          omega
        · rw [upd_same, List.take_add_one, hc, List.map_append, List.map_append]
          rfl
      rintro G2 ⟨h3, h4⟩
      rw [List.length_map, List.take_length] at h4
      refine ⟨D2, _, rfl, SqL.of h4, ?_⟩
      have q' := q G2 (sameT h1 h3)
      rw [eN] at q'
      rw [List.all_map]
      exact q'
  | int i => exact ⟨_, rfl, iteT (iteT (q H same))⟩
  | bl b => exact ⟨_, rfl, iteT (iteT (q H same))⟩
  | non => exact ⟨_, rfl, iteT (iteT (q H same))⟩
  | tup l => exact ⟨_, rfl, iteT (iteT (q H same))⟩
  | lst l => exact ⟨_, rfl, iteT (iteT (q H same))⟩
abbrev sNumber : Stmt := topS 17
theorem scNumber : FnScope ["thing", "least", "greatest"] ["thing", "least", "greatest"] (defScope sNumber) := ⟨rfl, rfl, rfl, by decide +kernel, rfl, by decide +kernel, by decide +kernel⟩
def spNumber : Sp := fun vs H Q _ => ∃ (B : Addr → Prop) (v : V) (k : Dd) (lo hi : Int), vs = [v, .int lo, .int hi] ∧ k.At B H v ∧ ∀ H', Same H H' → Q (.bl (numIn lo hi k)) H'
theorem c_number {f : Addr} {fd : FuncData} (cis_integer : C8.Cal P w K mg base 1 "is_integer" (spB isInt fun _ => True) []) (F : Fun K "_is_number" "_is_number" sNumber f fd) (b : Binds K fd ["thing", "least", "greatest"] []) (hm : mg "_is_number" = some (.ref f)) : C8.Cal P w K mg base 2 "_is_number" spNumber [] := by
  refine cal_of F hm b scNumber (fun vs H Q E h => ?_) (fun cdv A outer s H vs Q E hr h => ?_)
  · obtain ⟨B, v, k, lo, hi, rfl, _⟩ := h
    rfl
  obtain ⟨B, v, k, lo, hi, rfl, hat, q⟩ := h
  refine ⟨_, (pss_one (ps_ret (pe_and (C8.pe_c cis_integer hr (by decide) rfl (pa_cons (pv 0) pa_nil)) (pe_one (pe_chain op_le op_le (pv 1) (pv 0) (pv 2)))))), ?_⟩
  refine ⟨_, rfl, B, v, k, rfl, hat, True.intro, fun H1 s1 => ⟨_, rfl, ?_⟩⟩
  cases k with
  | int i =>
    cases (show v = .int i from hat)
    refine iteT ?_
    exact chainV (a := lo) (n := i) (c := hi) (fun R hR => ⟨_, rfl, hR⟩) (fun R hR => ⟨_, rfl, hR⟩) (fun R hR => ⟨_, rfl, hR⟩) (q H1 s1)
  | bl b => exact q H1 s1
  | non => exact q H1 s1
  | str s => exact q H1 s1
  | tup l => exact q H1 s1
  | lst l => exact q H1 s1
abbrev sCore : Stmt := topS 13
theorem scCore : FnScope ["thing"] ["thing"] (defScope sCore) := ⟨rfl, rfl, rfl, by decide +kernel, rfl, by decide +kernel, by decide +kernel⟩
theorem c_core {f : Addr} {fd : FuncData} (T : TxtF K mg aS) (c_is_number : C8.Cal P w K mg base 2 "_is_number" spNumber []) (F : Fun K "is_core_number" "is_core_number" sCore f fd) (b : Binds K fd ["thing"] []) (hm : mg "is_core_number" = some (.ref f)) : C8.Cal P w K mg base 3 "is_core_number" (spB cNum fun _ => True) [] := by
  refine cal_of F hm b scCore (fun vs H Q E h => ?_) (fun cdv A outer s H vs Q E hr h => ?_)
  · obtain ⟨B, v, k, rfl, _⟩ := h
    rfl
  obtain ⟨B, v, k, rfl, hat, _, q⟩ := h
  refine ⟨_, (pss_one (ps_ret (C8.pe_c c_is_number hr (by decide) rfl (pa_cons (pv 0) (pa_cons (pe_un un_neg (C8.pe_gc rfl T.gLARGEST_NUMBER)) (pa_cons (C8.pe_gc rfl T.gLARGEST_NUMBER) pa_nil)))))), ?_⟩
  exact ⟨_, rfl, _, rfl, B, v, k, _, _, rfl, hat, fun H1 s1 => q H1 s1⟩
abbrev sRow : Stmt := topS 14
theorem scRow : FnScope ["thing", "many"] ["thing", "many"] (defScope sRow) := ⟨rfl, rfl, rfl, by decide +kernel, rfl, by decide +kernel, by decide +kernel⟩
def spRow (g : Nat → Dd → Bool) : Sp := fun vs H Q _ => ∃ (B : Addr → Prop) (v : V) (k : Dd) (n : Nat), vs = [v, .int (n : Int)] ∧ k.At B H v ∧ k.sz ≤ 1000000 ∧ ∀ H', Same H H' → Q (.bl (g n k)) H'
theorem c_row {f : Addr} {fd : FuncData} (T : TxtF K mg aS) (F : Fun K "is_row" "is_row" sRow f fd) (b : Binds K fd ["thing", "many"] []) (hm : mg "is_row" = some (.ref f)) : C8.Cal P w K mg base 1 "is_row" (spRow isRow) [] := by
  refine cal_of F hm b scRow (fun vs H Q E h => ?_) (fun cdv A outer s H vs Q E hr h => ?_)
  · obtain ⟨B, v, k, n, rfl, _⟩ := h
    rfl
  obtain ⟨B, v, k, n, rfl, hat, _, q⟩ := h
  refine ⟨_, (pss_one (ps_ret (pe_and (pe_callB call_isi rfl T.zisinstance boot_isinstance (pa_cons (pv 0) (pa_cons (pe_bltn (v := .ty "tuple") rfl T.ztuple boot_tuple rfl) pa_nil))) (pe_one (pe_cmpR op_eq (pe_callB call_len_seq rfl T.zlen PySem.boot_len (pa_cons (pv 0) pa_nil)) (pv 1) (nomark _)))))), ?_⟩
  refine ⟨_, rfl, v, .ty "tuple", _, _, _, rfl, .ty "tuple", ty_of hat, kit_tup k, ?_⟩
  have same : Same H H := fun _ _ e => e
  cases k with
  | tup l =>
    obtain ⟨a, xs, rfl, ha, hs⟩ := id hat
    refine ⟨_, rfl, ?_⟩
    refine iteT ?_
    refine ⟨_, rfl, a, xs, rfl, .inr (SqT.of ha), _, rfl, rfl, ?_⟩
    have q' := q H same
    rw [show isRow n (.tup l) = decide (V.int (xs.length : Int) = V.int (n : Int)) by
      show decide (l.length = n) = _
      rw [ats_len hs]
      exact decide_eq_decide.mpr ⟨fun e => by rw [e], fun e => by have := V.int.inj e; omega⟩] at q'
    exact q'
  | int i => exact ⟨_, rfl, q H same⟩
  | bl b => exact ⟨_, rfl, q H same⟩
  | non => exact ⟨_, rfl, q H same⟩
  | str s => exact ⟨_, rfl, q H same⟩
  | lst l => exact ⟨_, rfl, q H same⟩
abbrev sRows : Stmt := topS 15
theorem scRows : FnScope ["thing", "many", "row"] ["thing", "many"] (defScope sRows) := ⟨rfl, rfl, rfl, by decide +kernel, rfl, by decide +kernel, by decide +kernel⟩
theorem c_rows {f : Addr} {fd : FuncData} (T : TxtF K mg aS) (cis_row : C8.Cal P w K mg base 1 "is_row" (spRow isRow) []) (F : Fun K "are_rows" "are_rows" sRows f fd) (b : Binds K fd ["thing", "many"] []) (hm : mg "are_rows" = some (.ref f)) : C8.Cal P w K mg base 2 "are_rows" (spRow areRows) [] := by
  refine cal_of F hm b scRows (fun vs H Q E h => ?_) (fun cdv A outer s H vs Q E hr h => ?_)
  · obtain ⟨B, v, k, n, rfl, _⟩ := h
    rfl
  obtain ⟨B, v, k, n, rfl, hat, hsz, q⟩ := h
  refine ⟨_, (pss_one (ps_ret (pe_and (pe_callB call_isi rfl T.zisinstance boot_isinstance (pa_cons (pv 0) (pa_cons (pe_bltn (v := .ty "tuple") rfl T.ztuple boot_tuple rfl) pa_nil))) (pe_one (pe_callB (cr_all rfl) rfl T.zall boot_all (pa_cons (pe_lc (own := [("row", 2)]) (g := gName 2) (tt := tYes) (te := (tCall (spRow isRow) [] C8.E0 (tCons (tVar 2) (tCons (tVar 1) tNil)))) rfl scRows.nd (pi_tup (pv 0)) (blkOk_by (own := [("row", 2)]) (N := ["thing", "many", "row"]) (sc := defScope sRows) (by decide +kernel)) (fun _ _ _ _ _ => (pg_name (i := 2) scRows.nd rfl (Or.inl rfl))) (fun _ _ _ _ _ => pts_nil) (fun _ _ _ _ _ => (C8.pe_c cis_row hr (by decide) rfl (pa_cons (pv 2) (pa_cons (pv 1) pa_nil))))) pa_nil)))))), ?_⟩
  refine ⟨_, rfl, v, .ty "tuple", _, _, _, rfl, .ty "tuple", ty_of hat, kit_tup k, ?_⟩
  have same : Same H H := fun _ _ e => e
  cases k with
  | tup l =>
    obtain ⟨a, xs, rfl, ha, hs⟩ := id hat
    refine ⟨_, rfl, ?_⟩
    refine iteT ?_
    refine ⟨_, rfl, a, rfl, ⟨_, SqT.of ha⟩, fun D hD => ?_⟩
    have hxl := ats_len hs
    have hll := szs_len l
    have hsz : 1 + Dd.szs l ≤ 1000000 := hsz
    refine lc_tup (K := K) (a := a) (xs := xs) (fun i G => Same H G ∧ G D = some (.lst (((l.take i).map (isRow n)).map V.bl))) ⟨same_new hD _, upd_same⟩ (fun i G hi ⟨h1, h2⟩ => SqT.of (h1 _ _ ha)) ?_ ?_
    · rintro i x G hx ⟨h1, h2⟩
      obtain ⟨k, hk, hkat⟩ := ats_get hs hx
      have hil : i < l.length := (List.getElem?_eq_some_iff.mp hk).1
      refine ⟨rfl, ?_⟩
      refine tYes_if ?_
      have := szs_mem (List.mem_of_getElem? hk)
      refine ⟨_, rfl, _, rfl, B, x, k, n, rfl, hkat.keep (fr_same h1), by omega, fun G2 s2 => ?_⟩
      refine ⟨_, s2 _ _ h2, ?_, same_upd hD (sameT h1 s2) _, ?_⟩
      · rw [List.length_map, List.length_map, List.length_take]
        have : (1000000 : Nat) < sizeLine := by decide
        omega
      · rw [upd_same, List.take_add_one, hk, List.map_append, List.map_append]
        rfl
    rintro G ⟨h1, h2⟩
    rw [hxl, List.take_length] at h2
    refine ⟨D, _, rfl, SqL.of h2, ?_⟩
    rw [List.all_map]
    exact q G h1
  | int i => exact ⟨_, rfl, q H same⟩
  | bl b => exact ⟨_, rfl, q H same⟩
  | non => exact ⟨_, rfl, q H same⟩
  | str s => exact ⟨_, rfl, q H same⟩
  | lst l => exact ⟨_, rfl, q H same⟩
abbrev sSign : Stmt := topS 16
theorem scSign : FnScope ["thing"] ["thing"] (defScope sSign) := ⟨rfl, rfl, rfl, by decide +kernel, rfl, by decide +kernel, by decide +kernel⟩
theorem c_sign {f : Addr} {fd : FuncData} (T : TxtF K mg aS) (F : Fun K "is_sign" "is_sign" sSign f fd) (b : Binds K fd ["thing"] []) (hm : mg "is_sign" = some (.ref f)) : C8.Cal P w K mg base 1 "is_sign" (spB isSign fun _ => True) [] := by
  refine cal_of F hm b scSign (fun vs H Q E h => ?_) (fun cdv A outer s H vs Q E hr h => ?_)
  · obtain ⟨B, v, k, rfl, _⟩ := h
    rfl
  obtain ⟨B, v, k, rfl, hat, _, q⟩ := h
  refine ⟨_, (pss_one (ps_ret (pe_and (pe_callB call_isi rfl T.zisinstance boot_isinstance (pa_cons (pv 0) (pa_cons (pe_bltn (v := .ty "str") rfl T.zstr boot_str rfl) pa_nil))) (pe_one (pe_cmpR op_in_seq (pv 0) (C8.pe_gc rfl T.gSIGNS) rfl))))), ?_⟩
  refine ⟨_, rfl, v, .ty "str", _, _, _, rfl, .ty "str", ty_of hat, kit_str k, ?_⟩
  have same : Same H H := fun _ _ e => e
  cases k with
  | str s =>
    obtain ⟨hv, hsl⟩ := (show v = .str s ∧ s.length ≤ 1000 from hat)
    cases hv
    refine ⟨_, rfl, ?_⟩
    refine iteT ?_
    refine ⟨_, rfl, aS, _, rfl, .inr (T.kSIGNS H), rfl, by decide +kernel, ?_⟩
    have q' := q H same
    rw [show isSign (.str s) = inV (.str s) (signs.map V.str) by rw [inV_strs]; rfl] at q'
    exact q'
  | int i => exact ⟨_, rfl, q H same⟩
  | bl b => exact ⟨_, rfl, q H same⟩
  | non => exact ⟨_, rfl, q H same⟩
  | tup l => exact ⟨_, rfl, q H same⟩
  | lst l => exact ⟨_, rfl, q H same⟩
end
end Toy

set_option Elab.async false
set_option linter.all false
set_option maxRecDepth 100000
set_option maxHeartbeats 4000000
/-! Part D: rows of different names; the forms of terms. -/
namespace Toy
open PySem L2
open PyProof.Rows (envOfC)
theorem ddK_snoc : ∀ (acc ks : List Key) (k : Key), ddK acc (ks ++ [k]) = if ((ddK acc ks).any fun j => decide (j = k)) = true then ddK acc ks else ddK acc ks ++ [k]
  | acc, [], k => rfl
  | acc, j :: ks, k => ddK_snoc _ ks k
theorem putK_keys (kvs : List (Key × V)) (k : Key) (v : V) : (putK kvs k v).map (·.1) = if ((kvs.map (·.1)).any fun j => decide (j = k)) = true then kvs.map (·.1) else kvs.map (·.1) ++ [k] := by
  unfold putK
  rw [List.any_map]
  by_cases h : (kvs.any fun kv => decide (kv.1 = k)) = true
  · rw [if_pos h, if_pos (by exact h), List.map_map]
    refine List.map_congr_left fun p hp => ?_
    show (if p.1 = k then (p.1, v) else p).1 = p.1
    split <;> rfl
  · rw [if_neg h, if_neg (by exact h), List.map_append]
    rfl
theorem ddK_len : ∀ (acc ks : List Key), (ddK acc ks).length ≤ acc.length + ks.length
  | acc, [] => Nat.le_refl _
  | acc, k :: ks => by
    have h := ddK_len (if (acc.any fun j => decide (j = k)) = true then acc else acc ++ [k]) ks
    have e : (if (acc.any fun j => decide (j = k)) = true then acc else acc ++ [k]).length ≤ acc.length + 1 := by
      split
      · omega
      · rw [List.length_append]; exact Nat.le_refl _
    show (ddK _ ks).length ≤ acc.length + (ks.length + 1)
    omega
/-- a text or a whole number -/
def isKey : Dd → Bool
  | .str _ => true
  | .int _ => true
  | _ => false
theorem key_at {B : Addr → Prop} {H : Hp} {k : Dd} {v : V} (h : k.At B H v) (hk : isKey k = true) : v = kV (keyD k) := by
  cases k with
  | str s => exact h.1
  | int i => exact h
  | bl b => cases hk
  | non => cases hk
  | tup l => cases hk
  | lst l => cases hk
theorem int_dec (a b : Nat) : decide (V.int (a : Int) = V.int (b : Int)) = decide (a = b) := decide_eq_decide.mpr ⟨fun e => by have := V.int.inj e; omega, fun e => by rw [e]⟩
theorem name_key {k : Dd} (h : isName k = true) : isKey k = true := by
  cases k with
  | str s => rfl
  | int i => rfl
  | bl b => cases h
  | non => cases h
  | tup l => cases h
  | lst l => cases h
theorem num_key {k : Dd} {lo hi : Int} (h : numIn lo hi k = true) : isKey k = true := by
  cases k with
  | str s => rfl
  | int i => rfl
  | bl b => cases h
  | non => cases h
  | tup l => cases h
  | lst l => cases h
theorem ne_non {B : Addr → Prop} {H : Hp} {k : Dd} {v : V} (h : k.At B H v) (hk : k ≠ .non) : v ≠ .non := by
  cases k with
  | non => exact absurd rfl hk
  | bl b => cases h; exact fun z => by cases z
  | int i => cases h; exact fun z => by cases z
  | str s => cases h.1; exact fun z => by cases z
  | tup l => obtain ⟨a, xs, rfl, _⟩ := h; exact fun z => by cases z
  | lst l => obtain ⟨a, xs, rfl, _⟩ := h; exact fun z => by cases z
theorem dflt_eq {k : Dd} (hk : k ≠ .non) : isDflt k = (isRow 2 k && isName (nth 0 k)) := by
  cases k with
  | non => exact absurd rfl hk
  | bl b => rfl
  | int i => rfl
  | str s => rfl
  | tup l => rfl
  | lst l => rfl
/-- the i-th thing behind the first -/
theorem arg_at {B : Addr → Prop} {H : Hp} {v0 : V} {r : List Dd} {ys : List V} (h : Dd.Ats B H r ys) {i : Nat} (hi : i < r.length) : ∃ x, atI (v0 :: ys) ((i + 1 : Nat) : Int) = some x ∧ (arg i r).At B H x := by
  obtain ⟨x, hx, hxa⟩ := ats_getI h (List.getElem?_eq_getElem hi)
  refine ⟨x, atI_nat (xs := v0 :: ys) (j := i + 1) (by rw [List.getElem?_cons_succ]; exact hx), ?_⟩
  unfold arg
  rw [List.getD_eq_getElem?_getD, List.getElem?_eq_getElem hi]
  exact hxa
theorem nth_at {B : Addr → Prop} {H : Hp} {l : List Dd} {ys : List V} (h : Dd.Ats B H l ys) {i : Nat} (hi : i < l.length) : ∃ x, atI ys (i : Int) = some x ∧ (nth i (.tup l)).At B H x := by
  obtain ⟨x, hx, hxa⟩ := ats_getI h (List.getElem?_eq_getElem hi)
  refine ⟨x, atI_nat hx, ?_⟩
  show (l.getD i .non).At B H x
  rw [List.getD_eq_getElem?_getD, List.getElem?_eq_getElem hi]
  exact hxa
section
variable {P : Program} {w : World} {K : PySem.W.Frag} {mg : Str → Option Value} {base : Heap} {aS : Addr}
abbrev sDiff : Stmt := topS 18
theorem scDiff : FnScope ["things", "thing"] ["things"] (defScope sDiff) := ⟨rfl, rfl, rfl, by decide +kernel, rfl, by decide +kernel, by decide +kernel⟩
def spDiffT : Sp := fun vs H Q _ => ∃ (B : Addr → Prop) (a : Addr) (l : List Dd) (xs : List V), vs = [.ref a] ∧ H a = some (.tup xs) ∧ Dd.Ats B H l xs ∧ (∀ k ∈ l, isKey k = true) ∧ l.length ≤ 1000000 ∧ ∀ H', Same H H' → Q (.bl (distK (l.map keyD))) H'
def spDiffL : Sp := fun vs H Q _ => ∃ (B : Addr → Prop) (a : Addr) (l : List Dd) (xs : List V), vs = [.ref a] ∧ H a = some (.lst xs) ∧ Dd.Ats B H l xs ∧ (∀ k ∈ l, isKey k = true) ∧ l.length ≤ 1000000 ∧ ∀ H', Same H H' → Q (.bl (distK (l.map keyD))) H'
theorem c_diffT {f : Addr} {fd : FuncData} (T : TxtF K mg aS) (F : Fun K "_are_different" "_are_different" sDiff f fd) (b : Binds K fd ["things"] []) (hm : mg "_are_different" = some (.ref f)) : C8.Cal P w K mg base 1 "_are_different" spDiffT [] := by
  refine cal_of F hm b scDiff (fun vs H Q E h => ?_) (fun cdv A outer s H vs Q E hr h => ?_)
  · obtain ⟨B, a, l, xs, rfl, _⟩ := h
    rfl
  obtain ⟨B, a, l, xs, rfl, ha, hs, hk, hl, q⟩ := h
  have hu := hu_of hr
  refine ⟨_, (pss_one (ps_ret (pe_cmpR op_eq (pe_callB call_lenD rfl T.zlen PySem.boot_len (pa_cons (pe_dc (own := [("thing", 1)]) (g := gName 1) (tt := tYes) rfl scDiff.nd (pi_tup (pv 0)) (blkOk_by (own := [("thing", 1)]) (N := ["things", "thing"]) (sc := defScope sDiff) (by decide +kernel)) (fun _ _ _ _ _ => (pg_name (i := 1) scDiff.nd rfl (Or.inl rfl))) (fun _ _ _ _ _ => pts_nil) (fun _ _ _ _ _ => (pv 1)) (fun _ _ _ _ _ => pe_bl)) pa_nil)) (pe_callB call_len_seq rfl T.zlen PySem.boot_len (pa_cons (pv 0) pa_nil)) (nomark _)))), ?_⟩
  refine ⟨_, rfl, a, rfl, ⟨_, SqT.of ha⟩, fun D hD => ?_⟩
  have hxl := ats_len hs
  refine dc_tup (K := K) (a := a) (xs := xs) (fun i G => Same H G ∧ ∃ kvs, G D = some (.dK kvs) ∧ kvs.map (·.1) = ddK [] ((l.take i).map keyD)) ⟨same_new hD _, [], upd_same, rfl⟩ (fun i G hi ⟨h1, _⟩ => SqT.of (h1 _ _ ha)) ?_ ?_
  · rintro i x G hx ⟨h1, kvs, h2, h3⟩
    obtain ⟨k, hki, hkat⟩ := ats_get hs hx
    have hil : i < l.length := (List.getElem?_eq_some_iff.mp hki).1
    cases key_at hkat (hk k (List.mem_of_getElem? hki))
    have hkl : kvs.length ≤ i := by
      have := congrArg List.length h3
      have h4 : _ ≤ 0 + _ := ddK_len [] ((l.take i).map keyD)
      have h5 : ((l.take i).map keyD).length ≤ i := by rw [List.length_map, List.length_take]; omega
      rw [List.length_map] at this
      omega
    refine ⟨rfl, ?_⟩
    refine tYes_if ?_
    refine ⟨_, rfl, kvs, keyD k, rfl, h2, ?_, same_upd hD h1 _, _, upd_same, ?_⟩
    · have : (1000000 : Nat) < sizeLine := by decide
      omega
    · rw [putK_keys, h3, List.take_add_one, hki, List.map_append]
      exact (ddK_snoc _ _ _).symm
  rintro G ⟨h1, kvs, h2, h3⟩
  rw [hxl, List.take_length] at h3
  refine ⟨D, kvs, rfl, h2, _, rfl, a, xs, rfl, .inr (SqT.of (h1 _ _ ha)), rfl, ?_⟩
  have q' := q G h1
  rw [show distK (l.map keyD) = decide (V.int (kvs.length : Int) = V.int (xs.length : Int)) by
    have := congrArg List.length h3
    rw [List.length_map] at this
    rw [int_dec, this, hxl]
    unfold distK
    rw [List.length_map]] at q'
  exact q'
theorem c_diffL {f : Addr} {fd : FuncData} (T : TxtF K mg aS) (F : Fun K "_are_different" "_are_different" sDiff f fd) (b : Binds K fd ["things"] []) (hm : mg "_are_different" = some (.ref f)) : C8.Cal P w K mg base 1 "_are_different" spDiffL [] := by
  refine cal_of F hm b scDiff (fun vs H Q E h => ?_) (fun cdv A outer s H vs Q E hr h => ?_)
  · obtain ⟨B, a, l, xs, rfl, _⟩ := h
    rfl
  obtain ⟨B, a, l, xs, rfl, ha, hs, hk, hl, q⟩ := h
  have hu := hu_of hr
  refine ⟨_, (pss_one (ps_ret (pe_cmpR op_eq (pe_callB call_lenD rfl T.zlen PySem.boot_len (pa_cons (pe_dc (own := [("thing", 1)]) (g := gName 1) (tt := tYes) rfl scDiff.nd (pi_list (pv 0)) (blkOk_by (own := [("thing", 1)]) (N := ["things", "thing"]) (sc := defScope sDiff) (by decide +kernel)) (fun _ _ _ _ _ => (pg_name (i := 1) scDiff.nd rfl (Or.inl rfl))) (fun _ _ _ _ _ => pts_nil) (fun _ _ _ _ _ => (pv 1)) (fun _ _ _ _ _ => pe_bl)) pa_nil)) (pe_callB call_len_seq rfl T.zlen PySem.boot_len (pa_cons (pv 0) pa_nil)) (nomark _)))), ?_⟩
  refine ⟨_, rfl, a, rfl, ⟨_, SqL.of ha⟩, fun D hD => ?_⟩
  have hxl := ats_len hs
  refine dc_list (K := K) (a := a) (xs := xs) (fun i G => Same H G ∧ ∃ kvs, G D = some (.dK kvs) ∧ kvs.map (·.1) = ddK [] ((l.take i).map keyD)) ⟨same_new hD _, [], upd_same, rfl⟩ (fun i G hi ⟨h1, _⟩ => SqL.of (h1 _ _ ha)) ?_ ?_
  · rintro i x G hx ⟨h1, kvs, h2, h3⟩
    obtain ⟨k, hki, hkat⟩ := ats_get hs hx
    have hil : i < l.length := (List.getElem?_eq_some_iff.mp hki).1
    cases key_at hkat (hk k (List.mem_of_getElem? hki))
    have hkl : kvs.length ≤ i := by
      have := congrArg List.length h3
      have h4 : _ ≤ 0 + _ := ddK_len [] ((l.take i).map keyD)
      have h5 : ((l.take i).map keyD).length ≤ i := by rw [List.length_map, List.length_take]; omega
      rw [List.length_map] at this
      omega
    refine ⟨rfl, ?_⟩
    refine tYes_if ?_
    refine ⟨_, rfl, kvs, keyD k, rfl, h2, ?_, same_upd hD h1 _, _, upd_same, ?_⟩
    · have : (1000000 : Nat) < sizeLine := by decide
      omega
    · rw [putK_keys, h3, List.take_add_one, hki, List.map_append]
      exact (ddK_snoc _ _ _).symm
  rintro G ⟨h1, kvs, h2, h3⟩
  rw [hxl, List.take_length] at h3
  refine ⟨D, kvs, rfl, h2, _, rfl, a, xs, rfl, .inl (SqL.of (h1 _ _ ha)), rfl, ?_⟩
  have q' := q G h1
  rw [show distK (l.map keyD) = decide (V.int (kvs.length : Int) = V.int (xs.length : Int)) by
    have := congrArg List.length h3
    rw [List.length_map] at this
    rw [int_dec, this, hxl]
    unfold distK
    rw [List.length_map]] at q'
  exact q'
abbrev sNames : Stmt := topS 11
theorem scNames : FnScope ["things", "thing"] ["things"] (defScope sNames) := ⟨rfl, rfl, rfl, by decide +kernel, rfl, by decide +kernel, by decide +kernel⟩
theorem c_names {f : Addr} {fd : FuncData} (T : TxtF K mg aS) (cis_name : C8.Cal P w K mg base 1 "is_name" (spB isName fun _ => True) []) (c_are_different : C8.Cal P w K mg base 1 "_are_different" spDiffT []) (F : Fun K "are_names" "are_names" sNames f fd) (b : Binds K fd ["things"] []) (hm : mg "are_names" = some (.ref f)) : C8.Cal P w K mg base 2 "are_names" (spB areNames fun k => k.sz ≤ 1000000) [] := by
  refine cal_of F hm b scNames (fun vs H Q E h => ?_) (fun cdv A outer s H vs Q E hr h => ?_)
  · obtain ⟨B, v, k, rfl, _⟩ := h
    rfl
  obtain ⟨B, v, k, rfl, hat, hsz, q⟩ := h
  refine ⟨_, (pss_cons (ps_if (PW.pt (pw_or (pt_not (pt_val (pe_callB call_isi rfl T.zisinstance boot_isinstance (pa_cons (pv 0) (pa_cons (pe_bltn (v := .ty "tuple") rfl T.ztuple boot_tuple rfl) pa_nil))))) (pw_or1 (pt_not (pt_val (pe_callB (cr_all rfl) rfl T.zall boot_all (pa_cons (pe_lc (own := [("thing", 1)]) (g := gName 1) (tt := tYes) rfl scNames.nd (pi_tup (pv 0)) (blkOk_by (own := [("thing", 1)]) (N := ["things", "thing"]) (sc := defScope sNames) (by decide +kernel)) (fun _ _ _ _ _ => (pg_name (i := 1) scNames.nd rfl (Or.inl rfl))) (fun _ _ _ _ _ => pts_nil) (fun _ _ _ _ _ => (C8.pe_c cis_name hr (by decide) rfl (pa_cons (pv 1) pa_nil)))) pa_nil)))))))
      (pss_one (ps_ret pe_bl))
      pss_nil)
    (pss_one (ps_ret (C8.pe_c c_are_different hr (by decide) rfl (pa_cons (pv 0) pa_nil))))), ?_⟩
  refine ⟨_, rfl, v, .ty "tuple", _, _, _, rfl, .ty "tuple", ty_of hat, kit_tup k, ?_⟩
  have same : Same H H := fun _ _ e => e
  cases k with
  | tup l =>
    obtain ⟨a, xs, rfl, ha, hs⟩ := id hat
    refine ⟨_, rfl, ?_⟩
    refine iteF ?_
    refine ⟨_, rfl, a, rfl, ⟨_, SqT.of ha⟩, fun D hD => ?_⟩
    have hxl := ats_len hs
    have hll := szs_len l
    have hsz : 1 + Dd.szs l ≤ 1000000 := hsz
    refine lc_tup (K := K) (a := a) (xs := xs) (fun i G => Same H G ∧ G D = some (.lst (((l.take i).map isName).map V.bl))) ⟨same_new hD _, upd_same⟩ (fun i G hi ⟨h1, h2⟩ => SqT.of (h1 _ _ ha)) ?_ ?_
    · rintro i x G hx ⟨h1, h2⟩
      obtain ⟨k, hk, hkat⟩ := ats_get hs hx
      have hil : i < l.length := (List.getElem?_eq_some_iff.mp hk).1
      refine ⟨rfl, ?_⟩
      refine tYes_if ?_
      refine ⟨_, rfl, B, x, k, rfl, hkat.keep (fr_same h1), True.intro, fun G2 s2 => ?_⟩
      refine ⟨_, s2 _ _ h2, ?_, same_upd hD (sameT h1 s2) _, ?_⟩
      · rw [List.length_map, List.length_map, List.length_take]
        have : (1000000 : Nat) < sizeLine := by decide
        omega
      · rw [upd_same, List.take_add_one, hk, List.map_append, List.map_append]
        rfl
    rintro G ⟨h1, h2⟩
    rw [hxl, List.take_length] at h2
    refine ⟨D, _, rfl, SqL.of h2, ?_⟩
    rw [List.all_map]
    refine ⟨_, rfl, ?_⟩
    cases hn : l.all isName with
    | true =>
      rw [show (l.all (id ∘ isName)) = true from hn]
      refine iteF ?_
      refine ⟨_, rfl, B, a, l, xs, rfl, h1 _ _ ha, hs.keep (fr_same h1), fun k hk => name_key (List.all_eq_true.mp hn k hk), by omega, fun G2 s2 => ?_⟩
      have q' := q G2 (sameT h1 s2)
      rw [show areNames (.tup l) = distK (l.map keyD) by show (l.all isName && _) = _; rw [hn, Bool.true_and]] at q'
      exact q'
    | false =>
      rw [show (l.all (id ∘ isName)) = false from hn]
      refine iteT ?_
      have q' := q G h1
      rw [show areNames (.tup l) = false by show (l.all isName && _) = _; rw [hn, Bool.false_and]] at q'
      exact q'
  | int i => exact ⟨_, rfl, iteT (iteT (q H same))⟩
  | bl b => exact ⟨_, rfl, iteT (iteT (q H same))⟩
  | non => exact ⟨_, rfl, iteT (iteT (q H same))⟩
  | str s => exact ⟨_, rfl, iteT (iteT (q H same))⟩
  | lst l => exact ⟨_, rfl, iteT (iteT (q H same))⟩
abbrev sDflt : Stmt := topS 26
theorem scDflt : FnScope ["thing"] ["thing"] (defScope sDflt) := ⟨rfl, rfl, rfl, by decide +kernel, rfl, by decide +kernel, by decide +kernel⟩
theorem c_dflt {f : Addr} {fd : FuncData} (T : TxtF K mg aS) (cis_name : C8.Cal P w K mg base 1 "is_name" (spB isName fun _ => True) []) (cis_row : C8.Cal P w K mg base 1 "is_row" (spRow isRow) []) (F : Fun K "_is_default" "_is_default" sDflt f fd) (b : Binds K fd ["thing"] []) (hm : mg "_is_default" = some (.ref f)) : C8.Cal P w K mg base 2 "_is_default" (spB isDflt fun k => k.sz ≤ 1000000) [] := by
  refine cal_of F hm b scDflt (fun vs H Q E h => ?_) (fun cdv A outer s H vs Q E hr h => ?_)
  · obtain ⟨B, v, k, rfl, _⟩ := h
    rfl
  obtain ⟨B, v, k, rfl, hat, hsz, q⟩ := h
  refine ⟨_, (pss_one (ps_ret (pe_or (pe_cmpR op_isN (pv 0) pe_non (nomark _)) (pe_one (pe_and (C8.pe_c cis_row hr (by decide) rfl (pa_cons (pv 0) (pa_cons pe_int pa_nil))) (pe_one (C8.pe_c cis_name hr (by decide) rfl (pa_cons (pe_ix ix_tup (pv 0) pe_int (fun _ _ => rfl)) pa_nil)))))))), ?_⟩
  have same : Same H H := fun _ _ e => e
  refine ⟨_, rfl, rfl, _, rfl, ?_⟩
  by_cases hk : k = .non
  · subst hk
    cases (show v = .non from hat)
    rw [decide_eq_true rfl]
    exact iteT (q H same)
  rw [decide_eq_false (ne_non hat hk)]
  refine iteF ?_
  refine ⟨_, rfl, B, v, k, 2, rfl, hat, hsz, fun H1 s1 => ⟨_, rfl, ?_⟩⟩
  have hd := dflt_eq hk
  cases hr2 : isRow 2 k with
  | false =>
    refine iteF ?_
    have q' := q H1 s1
    rw [hd, hr2, Bool.false_and] at q'
    exact q'
  | true =>
    refine iteT ?_
    cases k with
    | tup l =>
      obtain ⟨a, xs, rfl, ha, hs⟩ := id hat
      have hll : l.length = 2 := of_decide_eq_true hr2
      obtain ⟨x, hx0, hxa⟩ := nth_at hs (i := 0) (by omega)
      refine ⟨_, rfl, a, _, 0, _, rfl, rfl, SqT.of (s1 _ _ ha), hx0, B, x, _, rfl, hxa.keep (fr_same s1), True.intro, fun H2 s2 => ?_⟩
      have q' := q H2 (sameT s1 s2)
      rw [hd, hr2, Bool.true_and] at q'
      exact q'
    | int i => cases hr2
    | bl b => cases hr2
    | non => cases hr2
    | str s => cases hr2
    | lst l => cases hr2
end
end Toy

set_option Elab.async false
set_option linter.all false
set_option maxRecDepth 100000
set_option maxHeartbeats 4000000
/-! Part E: the forms of terms. -/
namespace Toy
open PySem L2
open PyProof.Rows (envOfC)
theorem head_at {B : Addr → Prop} {H : Hp} {w : Str} {r : List Dd} {v : V} (h : (Dd.tup (.str w :: r)).At B H v) : ∃ a ys, v = .ref a ∧ H a = some (.tup (.str w :: ys)) ∧ Dd.Ats B H r ys ∧ ys.length = r.length ∧ w.length ≤ 1000 := by
  obtain ⟨a, xs, rfl, ha, x, ys, rfl, ⟨hx, hw⟩, hs⟩ := h
  cases hx
  exact ⟨a, ys, rfl, ha, hs, ats_len hs, hw⟩
theorem len_is {w : Str} {ys : List V} {r : List Dd} (h : ys.length = r.length) (n : Nat) : decide (V.int (((V.str w :: ys).length : Nat) : Int) = V.int ((n + 1 : Nat) : Int)) = decide (r.length = n) := by
  rw [int_dec, List.length_cons, h]
  exact decide_eq_decide.mpr (by omega)
theorem len_ne {w : Str} {ys : List V} {r : List Dd} (h : ys.length = r.length) (n : Nat) : (!decide (V.int (((V.str w :: ys).length : Nat) : Int) = V.int ((n + 1 : Nat) : Int))) = !decide (r.length = n) := by rw [len_is h]
theorem arg_sz {w : Str} {r : List Dd} (i : Nat) : (arg i r).sz ≤ (Dd.tup (.str w :: r)).sz := by
  unfold arg
  rw [List.getD_eq_getElem?_getD]
  show _ ≤ 1 + (1 + Dd.szs r)
  cases h : r[i]? with
  | none => show 1 ≤ _; omega
  | some k =>
    have := szs_mem (List.mem_of_getElem? h)
    show k.sz ≤ _
    omega
theorem rows_of {n : Nat} {k : Dd} (h : areRows n k = true) : ∃ l, k = .tup l ∧ ∀ q ∈ l, ∃ m, q = .tup m ∧ m.length = n := by
  cases k with
  | tup l =>
    refine ⟨l, rfl, fun q hq => ?_⟩
    have hr := List.all_eq_true.mp (show l.all (isRow n) = true from h) q hq
    cases q with
    | tup m => exact ⟨m, rfl, of_decide_eq_true hr⟩
    | int i => cases hr
    | bl b => cases hr
    | non => cases hr
    | str s => cases hr
    | lst l => cases hr
  | int i => cases h
  | bl b => cases h
  | non => cases h
  | str s => cases h
  | lst l => cases h
theorem pair_at {B : Addr → Prop} {H : Hp} {m : List Dd} {v : V} (h : (Dd.tup m).At B H v) (hl : m.length = 2) : ∃ t x y, v = .ref t ∧ H t = some (.tup [x, y]) ∧ (nth 0 (.tup m)).At B H x ∧ (nth 1 (.tup m)).At B H y := by
  match m, hl with
  | [a, b], _ =>
    obtain ⟨t, xs, rfl, ht, x, zs, rfl, hx, y, us, rfl, hy, hz⟩ := h
    cases hz
    exact ⟨t, x, y, rfl, ht, hx, hy⟩
theorem three_at {B : Addr → Prop} {H : Hp} {m : List Dd} {v : V} (h : (Dd.tup m).At B H v) (hl : m.length = 3) : ∃ t x y z, v = .ref t ∧ H t = some (.tup [x, y, z]) ∧ (nth 0 (.tup m)).At B H x ∧ (nth 1 (.tup m)).At B H y ∧ (nth 2 (.tup m)).At B H z := by
  match m, hl with
  | [a, b, c], _ =>
    obtain ⟨t, xs, rfl, ht, x, zs, rfl, hx, y, us, rfl, hy, z, vs, rfl, hz, he⟩ := h
    cases he
    exact ⟨t, x, y, z, rfl, ht, hx, hy, hz⟩
theorem nth_sz (i : Nat) (k : Dd) : (nth i k).sz ≤ k.sz := by
  cases k with
  | tup l =>
    show (l.getD i .non).sz ≤ 1 + Dd.szs l
    rw [List.getD_eq_getElem?_getD]
    cases h : l[i]? with
    | none => show 1 ≤ _; omega
    | some q =>
      have := szs_mem (List.mem_of_getElem? h)
      show q.sz ≤ _
      omega
  | int i => exact sz_pos _
  | bl b => exact sz_pos _
  | non => exact sz_pos _
  | str s => exact sz_pos _
  | lst l => exact sz_pos _
theorem nths_sz (i : Nat) : ∀ l : List Dd, Dd.szs (l.map (nth i)) ≤ Dd.szs l
  | [] => Nat.le_refl _
  | k :: l => by
    have h1 := nth_sz i k
    have h2 := nths_sz i l
    show (nth i k).sz + Dd.szs (l.map (nth i)) ≤ k.sz + Dd.szs l
    omega
theorem big : (1000000 : Nat) < sizeLine := by decide
section
variable {P : Program} {w : World} {K : PySem.W.Frag} {mg : Str → Option Value} {base : Heap} {aS : Addr}
/-- a def that tells whether a row has one form -/
def spForm (g : List Dd → Bool) : Sp := fun vs H Q _ => ∃ (B : Addr → Prop) (v : V) (w : Str) (r : List Dd), vs = [v] ∧ (Dd.tup (.str w :: r)).At B H v ∧ (Dd.tup (.str w :: r)).sz ≤ 1000000 ∧ ∀ H', Same H H' → Q (.bl (g r)) H'
abbrev sFNum : Stmt := topS 19
theorem scFNum : FnScope ["term"] ["term"] (defScope sFNum) := ⟨rfl, rfl, rfl, by decide +kernel, rfl, by decide +kernel, by decide +kernel⟩
theorem c_FNum {f : Addr} {fd : FuncData} (T : TxtF K mg aS) (cis_core_number : C8.Cal P w K mg base 3 "is_core_number" (spB cNum fun _ => True) []) (F : Fun K "_is_num" "_is_num" sFNum f fd) (b : Binds K fd ["term"] []) (hm : mg "_is_num" = some (.ref f)) : C8.Cal P w K mg base 4 "_is_num" (spForm fNum) [] := by
  refine cal_of F hm b scFNum (fun vs H Q E h => ?_) (fun cdv A outer s H vs Q E hr h => ?_)
  · obtain ⟨B, v, w', r, rfl, _⟩ := h
    rfl
  obtain ⟨B, v, w', r, rfl, hat, hsz, q⟩ := h
  refine ⟨_, (pss_one (ps_ret (pe_and (pe_cmpR op_eq (pe_callB call_len_seq rfl T.zlen PySem.boot_len (pa_cons (pv 0) pa_nil)) pe_int (nomark _)) (pe_one (C8.pe_c cis_core_number hr (by decide) rfl (pa_cons (pe_ix ix_tup (pv 0) pe_int (fun _ _ => rfl)) pa_nil)))))), ?_⟩
  obtain ⟨a, ys, rfl, ha, hs, hyl, hw⟩ := head_at hat
  have same : Same H H := fun _ _ e => e
  refine ⟨_, rfl, a, _, rfl, .inr (SqT.of ha), rfl, _, rfl, ?_⟩
  rw [show decide (V.int (((V.str w' :: ys).length : Nat) : Int) = V.int 2) = decide (r.length = 1) from len_is hyl 1]
  cases hl : decide (r.length = 1) with
  | false =>
    refine iteF ?_
    have q' := q H same
    rw [show fNum r = false by unfold fNum; rw [hl]; rfl] at q'
    exact q'
  | true =>
    refine iteT ?_
    have hl' := of_decide_eq_true hl
    obtain ⟨x, hx, hxa⟩ := arg_at (v0 := .str w') hs (i := 0) (by omega)
    refine ⟨_, rfl, a, _, 1, _, rfl, rfl, SqT.of ha, hx, B, x, _, rfl, hxa, True.intro, fun H1 s1 => ?_⟩
    have q' := q H1 s1
    rw [show fNum r = _ by unfold fNum; rw [hl, Bool.true_and]] at q'
    exact q'
abbrev sFVar : Stmt := topS 20
theorem scFVar : FnScope ["term"] ["term"] (defScope sFVar) := ⟨rfl, rfl, rfl, by decide +kernel, rfl, by decide +kernel, by decide +kernel⟩
theorem c_FVar {f : Addr} {fd : FuncData} (T : TxtF K mg aS) (cis_name : C8.Cal P w K mg base 1 "is_name" (spB isName fun _ => True) []) (F : Fun K "_is_var" "_is_var" sFVar f fd) (b : Binds K fd ["term"] []) (hm : mg "_is_var" = some (.ref f)) : C8.Cal P w K mg base 4 "_is_var" (spForm fVar) [] := by
  refine cal_of F hm b scFVar (fun vs H Q E h => ?_) (fun cdv A outer s H vs Q E hr h => ?_)
  · obtain ⟨B, v, w', r, rfl, _⟩ := h
    rfl
  obtain ⟨B, v, w', r, rfl, hat, hsz, q⟩ := h
  refine ⟨_, (pss_one (ps_ret (pe_and (pe_cmpR op_eq (pe_callB call_len_seq rfl T.zlen PySem.boot_len (pa_cons (pv 0) pa_nil)) pe_int (nomark _)) (pe_one (C8.pe_c cis_name hr (by decide) rfl (pa_cons (pe_ix ix_tup (pv 0) pe_int (fun _ _ => rfl)) pa_nil)))))), ?_⟩
  obtain ⟨a, ys, rfl, ha, hs, hyl, hw⟩ := head_at hat
  have same : Same H H := fun _ _ e => e
  refine ⟨_, rfl, a, _, rfl, .inr (SqT.of ha), rfl, _, rfl, ?_⟩
  rw [show decide (V.int (((V.str w' :: ys).length : Nat) : Int) = V.int 2) = decide (r.length = 1) from len_is hyl 1]
  cases hl : decide (r.length = 1) with
  | false =>
    refine iteF ?_
    have q' := q H same
    rw [show fVar r = false by unfold fVar; rw [hl]; rfl] at q'
    exact q'
  | true =>
    refine iteT ?_
    have hl' := of_decide_eq_true hl
    obtain ⟨x, hx, hxa⟩ := arg_at (v0 := .str w') hs (i := 0) (by omega)
    refine ⟨_, rfl, a, _, 1, _, rfl, rfl, SqT.of ha, hx, B, x, _, rfl, hxa, True.intro, fun H1 s1 => ?_⟩
    have q' := q H1 s1
    rw [show fVar r = _ by unfold fVar; rw [hl, Bool.true_and]] at q'
    exact q'
abbrev sFLam : Stmt := topS 22
theorem scFLam : FnScope ["term"] ["term"] (defScope sFLam) := ⟨rfl, rfl, rfl, by decide +kernel, rfl, by decide +kernel, by decide +kernel⟩
theorem c_FLam {f : Addr} {fd : FuncData} (T : TxtF K mg aS) (cis_name : C8.Cal P w K mg base 1 "is_name" (spB isName fun _ => True) []) (F : Fun K "_is_lam" "_is_lam" sFLam f fd) (b : Binds K fd ["term"] []) (hm : mg "_is_lam" = some (.ref f)) : C8.Cal P w K mg base 4 "_is_lam" (spForm fLam) [] := by
  refine cal_of F hm b scFLam (fun vs H Q E h => ?_) (fun cdv A outer s H vs Q E hr h => ?_)
  · obtain ⟨B, v, w', r, rfl, _⟩ := h
    rfl
  obtain ⟨B, v, w', r, rfl, hat, hsz, q⟩ := h
  refine ⟨_, (pss_one (ps_ret (pe_and (pe_cmpR op_eq (pe_callB call_len_seq rfl T.zlen PySem.boot_len (pa_cons (pv 0) pa_nil)) pe_int (nomark _)) (pe_one (C8.pe_c cis_name hr (by decide) rfl (pa_cons (pe_ix ix_tup (pv 0) pe_int (fun _ _ => rfl)) pa_nil)))))), ?_⟩
  obtain ⟨a, ys, rfl, ha, hs, hyl, hw⟩ := head_at hat
  have same : Same H H := fun _ _ e => e
  refine ⟨_, rfl, a, _, rfl, .inr (SqT.of ha), rfl, _, rfl, ?_⟩
  rw [show decide (V.int (((V.str w' :: ys).length : Nat) : Int) = V.int 3) = decide (r.length = 2) from len_is hyl 2]
  cases hl : decide (r.length = 2) with
  | false =>
    refine iteF ?_
    have q' := q H same
    rw [show fLam r = false by unfold fLam; rw [hl]; rfl] at q'
    exact q'
  | true =>
    refine iteT ?_
    have hl' := of_decide_eq_true hl
    obtain ⟨x, hx, hxa⟩ := arg_at (v0 := .str w') hs (i := 0) (by omega)
    refine ⟨_, rfl, a, _, 1, _, rfl, rfl, SqT.of ha, hx, B, x, _, rfl, hxa, True.intro, fun H1 s1 => ?_⟩
    have q' := q H1 s1
    rw [show fLam r = _ by unfold fLam; rw [hl, Bool.true_and]] at q'
    exact q'
abbrev sFSeq : Stmt := topS 24
theorem scFSeq : FnScope ["term"] ["term"] (defScope sFSeq) := ⟨rfl, rfl, rfl, by decide +kernel, rfl, by decide +kernel, by decide +kernel⟩
theorem c_FSeq {f : Addr} {fd : FuncData} (T : TxtF K mg aS) (cis_name : C8.Cal P w K mg base 1 "is_name" (spB isName fun _ => True) []) (F : Fun K "_is_seq" "_is_seq" sFSeq f fd) (b : Binds K fd ["term"] []) (hm : mg "_is_seq" = some (.ref f)) : C8.Cal P w K mg base 4 "_is_seq" (spForm fSeq) [] := by
  refine cal_of F hm b scFSeq (fun vs H Q E h => ?_) (fun cdv A outer s H vs Q E hr h => ?_)
  · obtain ⟨B, v, w', r, rfl, _⟩ := h
    rfl
  obtain ⟨B, v, w', r, rfl, hat, hsz, q⟩ := h
  refine ⟨_, (pss_one (ps_ret (pe_and (pe_cmpR op_eq (pe_callB call_len_seq rfl T.zlen PySem.boot_len (pa_cons (pv 0) pa_nil)) pe_int (nomark _)) (pe_one (C8.pe_c cis_name hr (by decide) rfl (pa_cons (pe_ix ix_tup (pv 0) pe_int (fun _ _ => rfl)) pa_nil)))))), ?_⟩
  obtain ⟨a, ys, rfl, ha, hs, hyl, hw⟩ := head_at hat
  have same : Same H H := fun _ _ e => e
  refine ⟨_, rfl, a, _, rfl, .inr (SqT.of ha), rfl, _, rfl, ?_⟩
  rw [show decide (V.int (((V.str w' :: ys).length : Nat) : Int) = V.int 4) = decide (r.length = 3) from len_is hyl 3]
  cases hl : decide (r.length = 3) with
  | false =>
    refine iteF ?_
    have q' := q H same
    rw [show fSeq r = false by unfold fSeq; rw [hl]; rfl] at q'
    exact q'
  | true =>
    refine iteT ?_
    have hl' := of_decide_eq_true hl
    obtain ⟨x, hx, hxa⟩ := arg_at (v0 := .str w') hs (i := 0) (by omega)
    refine ⟨_, rfl, a, _, 1, _, rfl, rfl, SqT.of ha, hx, B, x, _, rfl, hxa, True.intro, fun H1 s1 => ?_⟩
    have q' := q H1 s1
    rw [show fSeq r = _ by unfold fSeq; rw [hl, Bool.true_and]] at q'
    exact q'
abbrev sFPrim : Stmt := topS 29
theorem scFPrim : FnScope ["term"] ["term"] (defScope sFPrim) := ⟨rfl, rfl, rfl, by decide +kernel, rfl, by decide +kernel, by decide +kernel⟩
theorem c_FPrim {f : Addr} {fd : FuncData} (T : TxtF K mg aS) (cis_sign : C8.Cal P w K mg base 1 "is_sign" (spB isSign fun _ => True) []) (F : Fun K "_is_prim" "_is_prim" sFPrim f fd) (b : Binds K fd ["term"] []) (hm : mg "_is_prim" = some (.ref f)) : C8.Cal P w K mg base 4 "_is_prim" (spForm fPrim) [] := by
  refine cal_of F hm b scFPrim (fun vs H Q E h => ?_) (fun cdv A outer s H vs Q E hr h => ?_)
  · obtain ⟨B, v, w', r, rfl, _⟩ := h
    rfl
  obtain ⟨B, v, w', r, rfl, hat, hsz, q⟩ := h
  refine ⟨_, (pss_one (ps_ret (pe_and (pe_cmpR op_eq (pe_callB call_len_seq rfl T.zlen PySem.boot_len (pa_cons (pv 0) pa_nil)) pe_int (nomark _)) (pe_one (C8.pe_c cis_sign hr (by decide) rfl (pa_cons (pe_ix ix_tup (pv 0) pe_int (fun _ _ => rfl)) pa_nil)))))), ?_⟩
  obtain ⟨a, ys, rfl, ha, hs, hyl, hw⟩ := head_at hat
  have same : Same H H := fun _ _ e => e
  refine ⟨_, rfl, a, _, rfl, .inr (SqT.of ha), rfl, _, rfl, ?_⟩
  rw [show decide (V.int (((V.str w' :: ys).length : Nat) : Int) = V.int 4) = decide (r.length = 3) from len_is hyl 3]
  cases hl : decide (r.length = 3) with
  | false =>
    refine iteF ?_
    have q' := q H same
    rw [show fPrim r = false by unfold fPrim; rw [hl]; rfl] at q'
    exact q'
  | true =>
    refine iteT ?_
    have hl' := of_decide_eq_true hl
    obtain ⟨x, hx, hxa⟩ := arg_at (v0 := .str w') hs (i := 0) (by omega)
    refine ⟨_, rfl, a, _, 1, _, rfl, rfl, SqT.of ha, hx, B, x, _, rfl, hxa, True.intro, fun H1 s1 => ?_⟩
    have q' := q H1 s1
    rw [show fPrim r = _ by unfold fPrim; rw [hl, Bool.true_and]] at q'
    exact q'
abbrev sFNote : Stmt := topS 30
theorem scFNote : FnScope ["term"] ["term"] (defScope sFNote) := ⟨rfl, rfl, rfl, by decide +kernel, rfl, by decide +kernel, by decide +kernel⟩
theorem c_FNote {f : Addr} {fd : FuncData} (T : TxtF K mg aS) (c_is_number : C8.Cal P w K mg base 2 "_is_number" spNumber []) (F : Fun K "_is_note" "_is_note" sFNote f fd) (b : Binds K fd ["term"] []) (hm : mg "_is_note" = some (.ref f)) : C8.Cal P w K mg base 4 "_is_note" (spForm fNote) [] := by
  refine cal_of F hm b scFNote (fun vs H Q E h => ?_) (fun cdv A outer s H vs Q E hr h => ?_)
  · obtain ⟨B, v, w', r, rfl, _⟩ := h
    rfl
  obtain ⟨B, v, w', r, rfl, hat, hsz, q⟩ := h
  refine ⟨_, (pss_one (ps_ret (pe_and (pe_cmpR op_eq (pe_callB call_len_seq rfl T.zlen PySem.boot_len (pa_cons (pv 0) pa_nil)) pe_int (nomark _)) (pe_one (C8.pe_c c_is_number hr (by decide) rfl (pa_cons (pe_ix ix_tup (pv 0) pe_int (fun _ _ => rfl)) (pa_cons pe_int (pa_cons (C8.pe_gc rfl T.gLARGEST_NOTE) pa_nil)))))))), ?_⟩
  obtain ⟨a, ys, rfl, ha, hs, hyl, hw⟩ := head_at hat
  have same : Same H H := fun _ _ e => e
  refine ⟨_, rfl, a, _, rfl, .inr (SqT.of ha), rfl, _, rfl, ?_⟩
  rw [show decide (V.int (((V.str w' :: ys).length : Nat) : Int) = V.int 3) = decide (r.length = 2) from len_is hyl 2]
  cases hl : decide (r.length = 2) with
  | false =>
    refine iteF ?_
    have q' := q H same
    rw [show fNote r = false by unfold fNote; rw [hl]; rfl] at q'
    exact q'
  | true =>
    refine iteT ?_
    have hl' := of_decide_eq_true hl
    obtain ⟨x, hx, hxa⟩ := arg_at (v0 := .str w') hs (i := 0) (by omega)
    refine ⟨_, rfl, a, _, 1, _, rfl, rfl, SqT.of ha, hx, B, x, _, _, _, rfl, hxa, fun H1 s1 => ?_⟩
    have q' := q H1 s1
    rw [show fNote r = _ by unfold fNote; rw [hl, Bool.true_and]] at q'
    exact q'
abbrev sFApp : Stmt := topS 21
theorem scFApp : FnScope ["term"] ["term"] (defScope sFApp) := ⟨rfl, rfl, rfl, by decide +kernel, rfl, by decide +kernel, by decide +kernel⟩
theorem c_FApp {f : Addr} {fd : FuncData} (T : TxtF K mg aS) (F : Fun K "_is_app" "_is_app" sFApp f fd) (b : Binds K fd ["term"] []) (hm : mg "_is_app" = some (.ref f)) : C8.Cal P w K mg base 4 "_is_app" (spForm fApp) [] := by
  refine cal_of F hm b scFApp (fun vs H Q E h => ?_) (fun cdv A outer s H vs Q E hr h => ?_)
  · obtain ⟨B, v, w', r, rfl, _⟩ := h
    rfl
  obtain ⟨B, v, w', r, rfl, hat, hsz, q⟩ := h
  refine ⟨_, (pss_one (ps_ret (pe_cmpR op_eq (pe_callB call_len_seq rfl T.zlen PySem.boot_len (pa_cons (pv 0) pa_nil)) pe_int (nomark _)))), ?_⟩
  obtain ⟨a, ys, rfl, ha, hs, hyl, hw⟩ := head_at hat
  have same : Same H H := fun _ _ e => e
  refine ⟨_, rfl, a, _, rfl, .inr (SqT.of ha), rfl, ?_⟩
  have q' := q H same
  rw [show fApp r = decide (V.int (((V.str w' :: ys).length : Nat) : Int) = V.int 3) from (len_is hyl 2).symm] at q'
  exact q'
abbrev sFCon : Stmt := topS 25
theorem scFCon : FnScope ["term"] ["term"] (defScope sFCon) := ⟨rfl, rfl, rfl, by decide +kernel, rfl, by decide +kernel, by decide +kernel⟩
theorem c_FCon {f : Addr} {fd : FuncData} (T : TxtF K mg aS) (c_is_number : C8.Cal P w K mg base 2 "_is_number" spNumber []) (F : Fun K "_is_con" "_is_con" sFCon f fd) (b : Binds K fd ["term"] []) (hm : mg "_is_con" = some (.ref f)) : C8.Cal P w K mg base 4 "_is_con" (spForm fCon) [] := by
  refine cal_of F hm b scFCon (fun vs H Q E h => ?_) (fun cdv A outer s H vs Q E hr h => ?_)
  · obtain ⟨B, v, w', r, rfl, _⟩ := h
    rfl
  obtain ⟨B, v, w', r, rfl, hat, hsz, q⟩ := h
  refine ⟨_, (pss_one (ps_ret (pe_and (pe_cmpR op_eq (pe_callB call_len_seq rfl T.zlen PySem.boot_len (pa_cons (pv 0) pa_nil)) pe_int (nomark _)) (pe_and (C8.pe_c c_is_number hr (by decide) rfl (pa_cons (pe_ix ix_tup (pv 0) pe_int (fun _ _ => rfl)) (pa_cons pe_int (pa_cons (C8.pe_gc rfl T.gLARGEST_TAG) pa_nil)))) (pe_one (pe_callB call_isi rfl T.zisinstance boot_isinstance (pa_cons (pe_ix ix_tup (pv 0) pe_int (fun _ _ => rfl)) (pa_cons (pe_bltn (v := .ty "tuple") rfl T.ztuple boot_tuple rfl) pa_nil)))))))), ?_⟩
  obtain ⟨a, ys, rfl, ha, hs, hyl, hw⟩ := head_at hat
  have same : Same H H := fun _ _ e => e
  refine ⟨_, rfl, a, _, rfl, .inr (SqT.of ha), rfl, _, rfl, ?_⟩
  rw [show decide (V.int (((V.str w' :: ys).length : Nat) : Int) = V.int 3) = decide (r.length = 2) from len_is hyl 2]
  cases hl : decide (r.length = 2) with
  | false =>
    refine iteF ?_
    have q' := q H same
    rw [show fCon r = false by unfold fCon; rw [hl]; rfl] at q'
    exact q'
  | true =>
    refine iteT ?_
    have hl' := of_decide_eq_true hl
    obtain ⟨x, hx, hxa⟩ := arg_at (v0 := .str w') hs (i := 0) (by omega)
    obtain ⟨y, hy, hya⟩ := arg_at (v0 := .str w') hs (i := 1) (by omega)
    refine ⟨_, rfl, a, _, 1, _, rfl, rfl, SqT.of ha, hx, B, x, _, _, _, rfl, hxa, fun H1 s1 => ⟨_, rfl, ?_⟩⟩
    cases hn : numIn 0 1000 (arg 0 r) with
    | false =>
      refine iteF ?_
      have q' := q H1 s1
      rw [show fCon r = false by unfold fCon; rw [hl, hn]; rfl] at q'
      exact q'
    | true =>
      refine iteT ?_
      refine ⟨_, rfl, a, _, 2, _, rfl, rfl, SqT.of (s1 _ _ ha), hy, y, .ty "tuple", _, _, _, rfl, .ty "tuple", ty_of (hya.keep (fr_same s1)), kit_tup _, ?_⟩
      have q' := q H1 s1
      rw [show fCon r = isTup (arg 1 r) by unfold fCon; rw [hl, hn]; rfl] at q'
      exact q'
abbrev sFLet : Stmt := topS 23
theorem scFLet : FnScope ["term", "name", "_"] ["term"] (defScope sFLet) := ⟨rfl, rfl, rfl, by decide +kernel, rfl, by decide +kernel, by decide +kernel⟩
theorem c_FLet {f : Addr} {fd : FuncData} (T : TxtF K mg aS) (care_rows : C8.Cal P w K mg base 2 "are_rows" (spRow areRows) []) (care_names : C8.Cal P w K mg base 2 "are_names" (spB areNames fun k => k.sz ≤ 1000000) []) (F : Fun K "_is_let" "_is_let" sFLet f fd) (b : Binds K fd ["term"] []) (hm : mg "_is_let" = some (.ref f)) : C8.Cal P w K mg base 4 "_is_let" (spForm fLet) [] := by
  refine cal_of F hm b scFLet (fun vs H Q E h => ?_) (fun cdv A outer s H vs Q E hr h => ?_)
  · obtain ⟨B, v, w', r, rfl, _⟩ := h
    rfl
  obtain ⟨B, v, w', r, rfl, hat, hsz, q⟩ := h
  refine ⟨_, (pss_cons (ps_if (PW.pt (pw_or (pt_cmpR op_ne (pe_callB call_len_seq rfl T.zlen PySem.boot_len (pa_cons (pv 0) pa_nil)) pe_int (nomark _)) (pw_or1 (pt_not (pt_val (C8.pe_c care_rows hr (by decide) rfl (pa_cons (pe_ix ix_tup (pv 0) pe_int (fun _ _ => rfl)) (pa_cons pe_int pa_nil))))))))
      (pss_one (ps_ret pe_bl))
      pss_nil)
    (pss_one (ps_ret (pe_and (pe_cmpR op_gt (pe_callB call_len_seq rfl T.zlen PySem.boot_len (pa_cons (pe_ix ix_tup (pv 0) pe_int (fun _ _ => rfl)) pa_nil)) pe_int (nomark _)) (pe_one (C8.pe_c care_names hr (by decide) rfl (pa_cons (pe_callTy call_tuple_of rfl T.ztuple boot_tuple (pa_cons (pe_lc (own := [("name", 1), ("_", 2)]) (g := gTup K 2 (gCons (gName 1) (gCons (gName 2) (gNil)))) (tt := tYes) rfl scFLet.nd (pi_tup (pe_ix ix_tup (pv 0) pe_int (fun _ _ => rfl))) (blkOk_by (own := [("name", 1), ("_", 2)]) (N := ["term", "name", "_"]) (sc := defScope sFLet) (by decide +kernel)) (fun _ _ _ _ _ => (pg_tup rfl (pgs_cons (pg_name (i := 1) scFLet.nd rfl (Or.inl rfl)) (pgs_cons (pg_name (i := 2) scFLet.nd rfl (Or.inl rfl)) pgs_nil)))) (fun _ _ _ _ _ => pts_nil) (fun _ _ _ _ _ => (pv 1))) pa_nil)) pa_nil))))))), ?_⟩
  obtain ⟨a, ys, rfl, ha, hs, hyl, hw⟩ := head_at hat
  have same : Same H H := fun _ _ e => e
  refine ⟨_, rfl, a, _, rfl, .inr (SqT.of ha), rfl, _, rfl, ?_⟩
  rw [show (!decide (V.int (((V.str w' :: ys).length : Nat) : Int) = V.int 3)) = !decide (r.length = 2) from len_ne hyl 2]
  cases hl : decide (r.length = 2) with
  | false =>
    refine iteT (iteT ?_)
    have q' := q H same
    rw [show fLet r = false by unfold fLet; rw [hl]; rfl] at q'
    exact q'
  | true =>
    refine iteF ?_
    have hl' := of_decide_eq_true hl
    obtain ⟨x, hx, hxa⟩ := arg_at (v0 := .str w') hs (i := 0) (by omega)
    have hz := arg_sz (w := w') (r := r) 0
    refine ⟨_, rfl, a, _, 1, _, rfl, rfl, SqT.of ha, hx, B, x, _, 2, rfl, hxa, by omega, fun H1 s1 => ⟨_, rfl, ?_⟩⟩
    cases hn : areRows 2 (arg 0 r) with
    | false =>
      refine iteT ?_
      have q' := q H1 s1
      rw [show fLet r = false by unfold fLet; rw [hl, hn]; rfl] at q'
      exact q'
    | true =>
      refine iteF ?_
      obtain ⟨l, el, hrows⟩ := rows_of hn
      rw [el] at hxa hz
      obtain ⟨b, xs2, rfl, hb, hbs⟩ := hxa
      have hb1 := s1 _ _ hb
      have ha1 := s1 _ _ ha
      have hxl := ats_len hbs
      have hlz := szs_len l
      have hz : 1 + Dd.szs l ≤ _ := hz
      have ef : fLet r = (decide (0 < l.length) && areNames (.tup (l.map (nth 0)))) := by unfold fLet; rw [hl, hn, el]; rfl
      refine ⟨_, rfl, a, _, 1, _, rfl, rfl, SqT.of ha1, hx, b, xs2, rfl, .inr (SqT.of hb1), _, _, rfl, rfl, _, rfl, ?_⟩
      rw [show decide ((0 : Int) < (xs2.length : Int)) = decide (0 < l.length) by rw [hxl]; exact decide_eq_decide.mpr (by omega)]
      cases hp : decide (0 < l.length) with
      | false =>
        refine iteF ?_
        have q' := q H1 s1
        rw [ef, hp, Bool.false_and] at q'
        exact q'
      | true =>
        refine iteT ?_
        rw [hp, Bool.true_and] at ef
        refine ⟨_, rfl, a, _, 1, _, rfl, rfl, SqT.of ha1, hx, b, rfl, ⟨_, SqT.of hb1⟩, fun D hD => ?_⟩
        refine lc_tup (K := K) (a := b) (xs := xs2) (fun i G => Same H1 G ∧ ∃ zs, G D = some (.lst zs) ∧ Dd.Ats B H ((l.take i).map (nth 0)) zs) ⟨same_new hD _, [], upd_same, rfl⟩ (fun i G hi ⟨h1, _⟩ => SqT.of (h1 _ _ hb1)) ?_ ?_
        · rintro i x G hx ⟨h1, zs, h2, h3⟩
          obtain ⟨k, hk, hkat⟩ := ats_get hbs hx
          have hil : i < l.length := (List.getElem?_eq_some_iff.mp hk).1
          obtain ⟨m, rfl, hm2⟩ := hrows k (List.mem_of_getElem? hk)
          obtain ⟨t, x1, y1, rfl, ht, hx1, hy1⟩ := pair_at hkat hm2
          have hzl := ats_len h3
          rw [List.length_map, List.length_take] at hzl
          refine ⟨t, _, rfl, SqT.of (h1 _ _ (s1 _ _ ht)), rfl, _, _, rfl, _, _, rfl, rfl, rfl, ?_⟩
          refine tYes_if ?_
          refine ⟨_, rfl, zs, h2, ?_, same_upd hD h1 _, zs ++ [x1], upd_same, ?_⟩
          · have := big; omega
          · rw [List.take_add_one, hk, List.map_append]
            exact ats_app h3 (ats_one hx1)
        rintro G ⟨h1, zs, h2, h3⟩
        rw [hxl, List.take_length] at h3
        refine ⟨D, zs, rfl, .inl ⟨SqL.of h2, fun t ht => ?_⟩⟩
        have s3 := same_new ht (.tup zs)
        have sG := sameT s1 (sameT h1 s3)
        have hns := nths_sz 0 l
        refine ⟨B, .ref t, .tup (l.map (nth 0)), rfl, ⟨t, zs, rfl, upd_same, h3.keep (fr_same sG)⟩, by show 1 + Dd.szs _ ≤ _; omega, fun G2 s4 => ?_⟩
        have q' := q G2 (sameT sG s4)
        rw [ef] at q'
        exact q'
abbrev sFCase : Stmt := topS 27
theorem scFCase : FnScope ["term", "tag", "names", "_"] ["term"] (defScope sFCase) := ⟨rfl, rfl, rfl, by decide +kernel, rfl, by decide +kernel, by decide +kernel⟩
theorem c_FCase {f : Addr} {fd : FuncData} (T : TxtF K mg aS) (care_rows : C8.Cal P w K mg base 2 "are_rows" (spRow areRows) []) (care_names : C8.Cal P w K mg base 2 "are_names" (spB areNames fun k => k.sz ≤ 1000000) []) (c_is_number : C8.Cal P w K mg base 2 "_is_number" spNumber []) (c_is_default : C8.Cal P w K mg base 2 "_is_default" (spB isDflt fun k => k.sz ≤ 1000000) [])
    (F : Fun K "_is_case" "_is_case" sFCase f fd) (b : Binds K fd ["term"] []) (hm : mg "_is_case" = some (.ref f)) : C8.Cal P w K mg base 4 "_is_case" (spForm fCase) [] := by
  refine cal_of F hm b scFCase (fun vs H Q E h => ?_) (fun cdv A outer s H vs Q E hr h => ?_)
  · obtain ⟨B, v, w', r, rfl, _⟩ := h
    rfl
  obtain ⟨B, v, w', r, rfl, hat, hsz, q⟩ := h
  refine ⟨_, (pss_cons (ps_if (PW.pt (pw_or (pt_cmpR op_ne (pe_callB call_len_seq rfl T.zlen PySem.boot_len (pa_cons (pv 0) pa_nil)) pe_int (nomark _)) (pw_or (pt_not (pt_val (C8.pe_c care_rows hr (by decide) rfl (pa_cons (pe_ix ix_tup (pv 0) pe_int (fun _ _ => rfl)) (pa_cons pe_int pa_nil))))) (pw_or1 (pt_not (pt_val (C8.pe_c c_is_default hr (by decide) rfl (pa_cons (pe_ix ix_tup (pv 0) pe_int (fun _ _ => rfl)) pa_nil))))))))
      (pss_one (ps_ret pe_bl))
      pss_nil)
    (pss_one (ps_ret (pe_callB (cr_all rfl) rfl T.zall boot_all (pa_cons (pe_lc (own := [("tag", 1), ("names", 2), ("_", 3)]) (g := gTup K 3 (gCons (gName 1) (gCons (gName 2) (gCons (gName 3) (gNil))))) (tt := tYes) (te := (tAndV (tCall spNumber [] C8.E0 (tCons (tVar 1) (tCons (tC (.int 0)) (tCons (tC (.int 1000)) tNil)))) (tCall (spB areNames fun k => k.sz ≤ 1000000) [] C8.E0 (tCons (tVar 2) tNil)))) rfl scFCase.nd (pi_tup (pe_ix ix_tup (pv 0) pe_int (fun _ _ => rfl))) (blkOk_by (own := [("tag", 1), ("names", 2), ("_", 3)]) (N := ["term", "tag", "names", "_"]) (sc := defScope sFCase) (by decide +kernel)) (fun _ _ _ _ _ => (pg_tup rfl (pgs_cons (pg_name (i := 1) scFCase.nd rfl (Or.inl rfl)) (pgs_cons (pg_name (i := 2) scFCase.nd rfl (Or.inl rfl)) (pgs_cons (pg_name (i := 3) scFCase.nd rfl (Or.inl rfl)) pgs_nil))))) (fun _ _ _ _ _ => pts_nil) (fun _ _ _ _ _ => (pe_and (C8.pe_c c_is_number hr (by decide) rfl (pa_cons (pv 1) (pa_cons pe_int (pa_cons (C8.pe_gc rfl T.gLARGEST_TAG) pa_nil)))) (pe_one (C8.pe_c care_names hr (by decide) rfl (pa_cons (pv 2) pa_nil)))))) pa_nil))))), ?_⟩
  obtain ⟨a, ys, rfl, ha, hs, hyl, hw⟩ := head_at hat
  have same : Same H H := fun _ _ e => e
  refine ⟨_, rfl, a, _, rfl, .inr (SqT.of ha), rfl, _, rfl, ?_⟩
  rw [show (!decide (V.int (((V.str w' :: ys).length : Nat) : Int) = V.int 4)) = !decide (r.length = 3) from len_ne hyl 3]
  cases hl : decide (r.length = 3) with
  | false =>
    refine iteT (iteT ?_)
    have q' := q H same
    rw [show fCase r = false by unfold fCase; rw [hl]; rfl] at q'
    exact q'
  | true =>
    refine iteF ?_
    have hl' := of_decide_eq_true hl
    obtain ⟨x, hx, hxa⟩ := arg_at (v0 := .str w') hs (i := 1) (by omega)
    obtain ⟨y, hy, hya⟩ := arg_at (v0 := .str w') hs (i := 2) (by omega)
    have hz := arg_sz (w := w') (r := r) 1
    have hz2 := arg_sz (w := w') (r := r) 2
    refine ⟨_, rfl, a, _, 2, _, rfl, rfl, SqT.of ha, hx, B, x, _, 3, rfl, hxa, by omega, fun H1 s1 => ⟨_, rfl, ?_⟩⟩
    cases hn : areRows 3 (arg 1 r) with
    | false =>
      refine iteT (iteT ?_)
      have q' := q H1 s1
      rw [show fCase r = false by unfold fCase; rw [hl, hn]; rfl] at q'
      exact q'
    | true =>
      refine iteF ?_
      refine ⟨_, rfl, a, _, 3, _, rfl, rfl, SqT.of (s1 _ _ ha), hy, B, y, _, rfl, hya.keep (fr_same s1), by omega, fun H2 s2 => ⟨_, rfl, ?_⟩⟩
      have s12 := sameT s1 s2
      cases hd : isDflt (arg 2 r) with
      | false =>
        refine iteT ?_
        have q' := q H2 s12
        rw [show fCase r = false by unfold fCase; rw [hl, hn, hd]; rfl] at q'
        exact q'
      | true =>
        refine iteF ?_
        obtain ⟨l, el, hrows⟩ := rows_of hn
        rw [el] at hxa hz
        obtain ⟨b, xs2, rfl, hb, hbs⟩ := hxa
        have hb1 := s12 _ _ hb
        have ha1 := s12 _ _ ha
        have hxl := ats_len hbs
        have hlz := szs_len l
        have hz : 1 + Dd.szs l ≤ _ := hz
        have ef : fCase r = l.all fun q => numIn 0 1000 (nth 0 q) && areNames (nth 1 q) := by unfold fCase; rw [hl, hn, hd, el]; rfl
        refine ⟨_, rfl, a, _, 2, _, rfl, rfl, SqT.of ha1, hx, b, rfl, ⟨_, SqT.of hb1⟩, fun D hD => ?_⟩
        refine lc_tup (K := K) (a := b) (xs := xs2) (fun i G => Same H2 G ∧ G D = some (.lst (((l.take i).map fun q => numIn 0 1000 (nth 0 q) && areNames (nth 1 q)).map V.bl))) ⟨same_new hD _, upd_same⟩ (fun i G hi ⟨h1, _⟩ => SqT.of (h1 _ _ hb1)) ?_ ?_
        · rintro i x G hx ⟨h1, h2⟩
          obtain ⟨k, hk, hkat⟩ := ats_get hbs hx
          have hil : i < l.length := (List.getElem?_eq_some_iff.mp hk).1
          have hkz := szs_mem (List.mem_of_getElem? hk)
          obtain ⟨m, rfl, hm2⟩ := hrows k (List.mem_of_getElem? hk)
          obtain ⟨t, x1, y1, z1, rfl, ht, hx1, hy1, hz1⟩ := three_at hkat hm2
          have sG := sameT s12 h1
          have hnz := nth_sz 1 (.tup m)
          refine ⟨t, _, rfl, SqT.of (sG _ _ ht), rfl, _, _, rfl, _, _, rfl, _, _, rfl, rfl, rfl, ?_⟩
          refine tYes_if ?_
          have fin : ∀ (G2 : Hp) (s2 : Same G G2) (c : Bool), c = (numIn 0 1000 (nth 0 (.tup m)) && areNames (nth 1 (.tup m))) → ∃ acc, G2 D = some (.lst acc) ∧ acc.length < sizeLine ∧ Same H2 (upd G2 D (.lst (acc ++ [.bl c]))) ∧ upd G2 D (.lst (acc ++ [.bl c])) D = some (.lst (((l.take (i + 1)).map fun q => numIn 0 1000 (nth 0 q) && areNames (nth 1 q)).map V.bl)) := fun G2 s2 c hc => by
            refine ⟨_, s2 _ _ h2, ?_, same_upd hD (sameT h1 s2) _, ?_⟩
            · rw [List.length_map, List.length_map, List.length_take]
              have := big
              omega
            · rw [upd_same, List.take_add_one, hk, List.map_append, List.map_append, hc]
              rfl
          refine ⟨_, rfl, B, x1, _, 0, 1000, rfl, hx1.keep (fr_same sG), fun G2 s2 => ⟨_, rfl, ?_⟩⟩
          cases hnn : numIn 0 1000 (nth 0 (.tup m)) with
          | false =>
            refine iteF ?_
            exact fin G2 s2 false (by rw [hnn]; rfl)
          | true =>
            refine iteT ?_
            refine ⟨_, rfl, B, y1, _, rfl, hy1.keep (fr_same (sameT sG s2)), by omega, fun G3 s3 => ?_⟩
            exact fin G3 (sameT s2 s3) _ (by rw [hnn, Bool.true_and])
        rintro G ⟨h1, h2⟩
        rw [hxl, List.take_length] at h2
        refine ⟨D, _, rfl, SqL.of h2, ?_⟩
        rw [List.all_map]
        have q' := q G (sameT s12 h1)
        rw [ef] at q'
        exact q'
abbrev sFPick : Stmt := topS 28
theorem scFPick : FnScope ["term", "numbers", "number", "_"] ["term"] (defScope sFPick) := ⟨rfl, rfl, rfl, by decide +kernel, rfl, by decide +kernel, by decide +kernel⟩
theorem c_FPick {f : Addr} {fd : FuncData} (T : TxtF K mg aS) (care_rows : C8.Cal P w K mg base 2 "are_rows" (spRow areRows) []) (cis_core_number : C8.Cal P w K mg base 3 "is_core_number" (spB cNum fun _ => True) []) (c_are_different : C8.Cal P w K mg base 1 "_are_different" spDiffL []) (c_is_default : C8.Cal P w K mg base 2 "_is_default" (spB isDflt fun k => k.sz ≤ 1000000) [])
    (F : Fun K "_is_pick" "_is_pick" sFPick f fd) (b : Binds K fd ["term"] []) (hm : mg "_is_pick" = some (.ref f)) : C8.Cal P w K mg base 4 "_is_pick" (spForm fPick) [] := by
  refine cal_of F hm b scFPick (fun vs H Q E h => ?_) (fun cdv A outer s H vs Q E hr h => ?_)
  · obtain ⟨B, v, w', r, rfl, _⟩ := h
    rfl
  obtain ⟨B, v, w', r, rfl, hat, hsz, q⟩ := h
  refine ⟨_, (pss_cons (ps_if (PW.pt (pw_or (pt_cmpR op_ne (pe_callB call_len_seq rfl T.zlen PySem.boot_len (pa_cons (pv 0) pa_nil)) pe_int (nomark _)) (pw_or (pt_not (pt_val (C8.pe_c care_rows hr (by decide) rfl (pa_cons (pe_ix ix_tup (pv 0) pe_int (fun _ _ => rfl)) (pa_cons pe_int pa_nil))))) (pw_or1 (pt_not (pt_val (C8.pe_c c_is_default hr (by decide) rfl (pa_cons (pe_ix ix_tup (pv 0) pe_int (fun _ _ => rfl)) pa_nil))))))))
      (pss_one (ps_ret pe_bl))
      pss_nil)
    (pss_cons (ps_setLc (i := 1) (own := [("number", 2), ("_", 3)]) (g := gTup K 2 (gCons (gName 2) (gCons (gName 3) (gNil)))) (tt := tYes) rfl scFPick.nd rfl rfl (sw_true rfl rfl rfl (by decide +kernel)) (pi_tup (pe_ix ix_tup (pv 0) pe_int (fun _ _ => rfl))) (blkOk_by (own := [("number", 2), ("_", 3)]) (N := ["term", "numbers", "number", "_"]) (sc := defScope sFPick) (by decide +kernel)) (fun _ _ _ _ _ => (pg_tup rfl (pgs_cons (pg_name (i := 2) scFPick.nd rfl (Or.inl rfl)) (pgs_cons (pg_name (i := 3) scFPick.nd rfl (Or.inl rfl)) pgs_nil)))) (fun _ _ _ _ _ => pts_nil) (fun _ _ _ _ _ => (pv 2)))
    (pss_one (ps_ret (pe_and (pe_callB (cr_all rfl) rfl T.zall boot_all (pa_cons (pe_lc (own := [("number", 2)]) (g := gName 2) (tt := tYes) rfl scFPick.nd (pi_list (pv 1)) (blkOk_by (own := [("number", 2)]) (N := ["term", "numbers", "number", "_"]) (sc := defScope sFPick) (by decide +kernel)) (fun _ _ _ _ _ => (pg_name (i := 2) scFPick.nd rfl (Or.inl rfl))) (fun _ _ _ _ _ => pts_nil) (fun _ _ _ _ _ => (C8.pe_c cis_core_number hr (by decide) rfl (pa_cons (pv 2) pa_nil)))) pa_nil)) (pe_one (C8.pe_c c_are_different hr (by decide) rfl (pa_cons (pv 1) pa_nil)))))))), ?_⟩
  obtain ⟨a, ys, rfl, ha, hs, hyl, hw⟩ := head_at hat
  have same : Same H H := fun _ _ e => e
  refine ⟨_, rfl, a, _, rfl, .inr (SqT.of ha), rfl, _, rfl, ?_⟩
  rw [show (!decide (V.int (((V.str w' :: ys).length : Nat) : Int) = V.int 4)) = !decide (r.length = 3) from len_ne hyl 3]
  cases hl : decide (r.length = 3) with
  | false =>
    refine iteT (iteT ?_)
    have q' := q H same
    rw [show fPick r = false by unfold fPick; rw [hl]; rfl] at q'
    exact q'
  | true =>
    refine iteF ?_
    have hl' := of_decide_eq_true hl
    obtain ⟨x, hx, hxa⟩ := arg_at (v0 := .str w') hs (i := 1) (by omega)
    obtain ⟨y, hy, hya⟩ := arg_at (v0 := .str w') hs (i := 2) (by omega)
    have hz := arg_sz (w := w') (r := r) 1
    have hz2 := arg_sz (w := w') (r := r) 2
    refine ⟨_, rfl, a, _, 2, _, rfl, rfl, SqT.of ha, hx, B, x, _, 2, rfl, hxa, by omega, fun H1 s1 => ⟨_, rfl, ?_⟩⟩
    cases hn : areRows 2 (arg 1 r) with
    | false =>
      refine iteT (iteT ?_)
      have q' := q H1 s1
      rw [show fPick r = false by unfold fPick; rw [hl, hn]; rfl] at q'
      exact q'
    | true =>
      refine iteF ?_
      refine ⟨_, rfl, a, _, 3, _, rfl, rfl, SqT.of (s1 _ _ ha), hy, B, y, _, rfl, hya.keep (fr_same s1), by omega, fun H2 s2 => ⟨_, rfl, ?_⟩⟩
      have s12 := sameT s1 s2
      cases hd : isDflt (arg 2 r) with
      | false =>
        refine iteT ?_
        have q' := q H2 s12
        rw [show fPick r = false by unfold fPick; rw [hl, hn, hd]; rfl] at q'
        exact q'
      | true =>
        refine iteF ?_
        obtain ⟨l, el, hrows⟩ := rows_of hn
        rw [el] at hxa hz
        obtain ⟨b, xs2, rfl, hb, hbs⟩ := hxa
        have hb1 := s12 _ _ hb
        have ha1 := s12 _ _ ha
        have hxl := ats_len hbs
        have hlz := szs_len l
        have hz : 1 + Dd.szs l ≤ _ := hz
        have ef : fPick r = ((l.map (nth 0)).all cNum && distK ((l.map (nth 0)).map keyD)) := by unfold fPick; rw [hl, hn, hd, el]; rfl
        refine ⟨_, rfl, a, _, 2, _, rfl, rfl, SqT.of ha1, hx, b, rfl, ⟨_, SqT.of hb1⟩, fun D hD => ?_⟩
        refine lc_tup (K := K) (a := b) (xs := xs2) (fun i G => Same H2 G ∧ ∃ zs, G D = some (.lst zs) ∧ Dd.Ats B H ((l.take i).map (nth 0)) zs) ⟨same_new hD _, [], upd_same, rfl⟩ (fun i G hi ⟨h1, _⟩ => SqT.of (h1 _ _ hb1)) ?_ ?_
        · rintro i x G hx ⟨h1, zs, h2, h3⟩
          obtain ⟨k, hk, hkat⟩ := ats_get hbs hx
          have hil : i < l.length := (List.getElem?_eq_some_iff.mp hk).1
          obtain ⟨m, rfl, hm2⟩ := hrows k (List.mem_of_getElem? hk)
          obtain ⟨t, x1, y1, rfl, ht, hx1, hy1⟩ := pair_at hkat hm2
          have hzl := ats_len h3
          rw [List.length_map, List.length_take] at hzl
          refine ⟨t, _, rfl, SqT.of (h1 _ _ (s12 _ _ ht)), rfl, _, _, rfl, _, _, rfl, rfl, rfl, ?_⟩
          refine tYes_if ?_
          refine ⟨_, rfl, zs, h2, ?_, same_upd hD h1 _, zs ++ [x1], upd_same, ?_⟩
          · have := big; omega
          · rw [List.take_add_one, hk, List.map_append]
            exact ats_app h3 (ats_one hx1)
        rintro G ⟨h1, zs, h2, h3⟩
        rw [hxl, List.take_length] at h3
        have sG := sameT s12 h1
        have hzl := ats_len h3
        rw [List.length_map] at hzl
        refine ⟨_, rfl, D, rfl, ⟨_, SqL.of h2⟩, fun D2 hD2 => ?_⟩
        refine lc_list (K := K) (a := D) (xs := zs) (fun i G2 => Same G G2 ∧ G2 D2 = some (.lst ((((l.map (nth 0)).take i).map cNum).map V.bl))) ⟨same_new hD2 _, upd_same⟩ (fun i G2 hi ⟨h4, _⟩ => SqL.of (h4 _ _ h2)) ?_ ?_
        · rintro i x G2 hx ⟨h4, h5⟩
          obtain ⟨k, hk, hkat⟩ := ats_get h3 hx
          have hil := (List.getElem?_eq_some_iff.mp hk).1
          rw [List.length_map] at hil
          refine ⟨rfl, ?_⟩
          refine tYes_if ?_
          refine ⟨_, rfl, B, x, k, rfl, hkat.keep (fr_same (sameT sG h4)), True.intro, fun G3 s3 => ?_⟩
          refine ⟨_, s3 _ _ h5, ?_, same_upd hD2 (sameT h4 s3) _, ?_⟩
          · rw [List.length_map, List.length_map, List.length_take, List.length_map]
            have := big
            omega
          · rw [upd_same, List.take_add_one, hk, List.map_append, List.map_append]
            rfl
        rintro G2 ⟨h4, h5⟩
        rw [hzl, show (l.map (nth 0)).take l.length = l.map (nth 0) by rw [← List.length_map (f := nth 0), List.take_length]] at h5
        refine ⟨D2, _, rfl, SqL.of h5, _, rfl, ?_⟩
        rw [List.all_map]
        cases hc : (l.map (nth 0)).all cNum with
        | false =>
          rw [show ((l.map (nth 0)).all (id ∘ cNum)) = false from hc]
          refine iteF ?_
          have q' := q G2 (sameT sG h4)
          rw [ef, hc, Bool.false_and] at q'
          exact q'
        | true =>
          rw [show ((l.map (nth 0)).all (id ∘ cNum)) = true from hc]
          refine iteT ?_
          refine ⟨_, rfl, B, D, l.map (nth 0), zs, rfl, h4 _ _ h2, h3.keep (fr_same (sameT sG h4)), fun k hk => num_key (List.all_eq_true.mp hc k hk), by rw [List.length_map]; omega, fun G3 s3 => ?_⟩
          have q' := q G3 (sameT sG (sameT h4 s3))
          rw [ef, hc, Bool.true_and] at q'
          exact q'
end
end Toy

set_option Elab.async false
set_option linter.all false
set_option maxRecDepth 100000
set_option maxHeartbeats 4000000
/-! Part F: whether something has a form; the parts of a term. -/
namespace Toy
open PySem L2
open PyProof.Rows (envOfC)
def words : List Str := ["num", "var", "app", "lam", "let", "seq", "con", "case", "pick", "prim", "note"]
theorem form_out {z : Str} (h : z ∉ words) (r : List Dd) : formW z r = false := by
  simp only [words, List.mem_cons, List.not_mem_nil, or_false, not_or] at h
  obtain ⟨h1, h2, h3, h4, h5, h6, h7, h8, h9, h10, h11⟩ := h
  unfold formW
  rw [if_neg h1, if_neg h2, if_neg h3, if_neg h4, if_neg h5, if_neg h6, if_neg h7, if_neg h8, if_neg h9, if_neg h10, if_neg h11]
theorem cut_from (xs : List V) (k : Nat) (h : k ≤ xs.length) : cutV xs (some (k : Int)) none = xs.drop k := by
  unfold cutV
  rw [HT.sIx_none, HT.sIx_nat, Nat.min_eq_left h]
  exact List.take_of_length_le (by rw [List.length_drop]; exact Nat.le_refl _)
theorem cut_no1 (k n d : Nat) (h : 0 < min k n) : ¬ HT.sIx n d (some (k : Int)) = 0 := by
  rw [HT.sIx_nat]
  omega
theorem ats_drop {B : Addr → Prop} {H : Hp} : ∀ {l : List Dd} {xs : List V}, Dd.Ats B H l xs → Dd.Ats B H (l.drop 1) (xs.drop 1)
  | [], _, h => by cases h; rfl
  | k :: l, _, ⟨x, ys, e, h, hs⟩ => by cases e; exact hs
structure TxtM (P : Program) (w : World) (K : PySem.W.Frag) (mg : Str → Option Value) (base : Heap) (aF : Addr) (es : Array DictEntry) (n : Nat) (sF : Addr → Option Sp) : Prop where
  zisinstance : mg "isinstance" = none
  ztuple : mg "tuple" = none
  zstr : mg "str" = none
  zlen : mg "len" = none
  kF : KDict K w aF es n
  gFORMS : ∃ u, mg "FORMS" = some u ∧ RelV (.ref aF) u
  formIn : ∀ z ∈ words, ∃ f, PySem.W.nsIn K aF z = some (some (.ref f)) ∧ sF f = some (spForm (formW z))
  formOut : ∀ z, z ∉ words → PySem.W.nsIn K aF z = some none
  heldF : ∀ f sp, sF f = some sp → Held P w K mg base 4 f sp
section
variable {P : Program} {w : World} {K : PySem.W.Frag} {mg : Str → Option Value} {base : Heap} {aF : Addr} {es : Array DictEntry} {n : Nat} {sF : Addr → Option Sp}
abbrev sHas : Stmt := topS 9
theorem scHas : FnScope ["thing", "check"] ["thing"] (defScope sHas) := ⟨rfl, rfl, rfl, by decide +kernel, rfl, by decide +kernel, by decide +kernel⟩
theorem c_has {f : Addr} {fd : FuncData} (T : TxtM P w K mg base aF es n sF) (F : Fun K "has_form" "has_form" sHas f fd) (b : Binds K fd ["thing"] []) (hm : mg "has_form" = some (.ref f)) : C8.Cal P w K mg base 5 "has_form" (spB formB fun k => k.sz ≤ 1000000) [] := by
  refine cal_of F hm b scHas (fun vs H Q E h => ?_) (fun cdv A outer s H vs Q E hr h => ?_)
  · obtain ⟨B, v, k, rfl, _⟩ := h
    rfl
  obtain ⟨B, v, k, rfl, hat, hsz, q⟩ := h
  refine ⟨_, (pss_cons (ps_if (PW.pt (pw_or (pt_not (pt_val (pe_callB call_isi rfl T.zisinstance boot_isinstance (pa_cons (pv 0) (pa_cons (pe_bltn (v := .ty "tuple") rfl T.ztuple boot_tuple rfl) pa_nil))))) (pw_or (pt_cmpR op_eq (pe_callB call_len_seq rfl T.zlen PySem.boot_len (pa_cons (pv 0) pa_nil)) pe_int (nomark _)) (pw_or1 (pt_not (pt_val (pe_callB call_isi rfl T.zisinstance boot_isinstance (pa_cons (pe_ix ix_tup (pv 0) pe_int (fun _ _ => rfl)) (pa_cons (pe_bltn (v := .ty "str") rfl T.zstr boot_str rfl) pa_nil)))))))))
      (pss_one (ps_ret pe_bl))
      pss_nil)
    (pss_cons (ps_set (i := 1) scHas.nd rfl (Or.inl rfl) (pe_kget T.kF (C8.pe_gc rfl T.gFORMS) (pe_ix ix_tup (pv 0) pe_int (fun _ _ => rfl)) ⟨rfl, rfl, rfl, rfl⟩))
    (pss_one (ps_ret (pe_and (pe_cmpR op_notN (pv 1) pe_non (nomark _)) (pe_one (pe_callA (i := 1) T.heldF (hr.mono (by decide)) rfl (Or.inl rfl) (pa_cons (pv 0) pa_nil)))))))), ?_⟩
  have same : Same H H := fun _ _ e => e
  refine ⟨_, rfl, v, .ty "tuple", _, _, _, rfl, .ty "tuple", ty_of hat, kit_tup k, ?_⟩
  cases k with
  | tup l =>
    obtain ⟨a, xs, rfl, ha, hs⟩ := id hat
    have hxl := ats_len hs
    refine ⟨_, rfl, ?_⟩
    refine iteF ?_
    refine ⟨_, rfl, a, xs, rfl, .inr (SqT.of ha), rfl, _, rfl, ?_⟩
    cases l with
    | nil =>
      cases (show xs = [] from hs)
      refine iteT (iteT (q H same))
    | cons x r =>
      obtain ⟨x1, ys, rfl, hx, hys⟩ := id hs
      rw [show decide (V.int (((x1 :: ys).length : Nat) : Int) = V.int 0) = false from decide_eq_false fun e => by
        have := V.int.inj e
        rw [List.length_cons] at this
        omega]
      refine iteF ?_
      refine ⟨_, rfl, a, _, 0, _, rfl, rfl, SqT.of ha, at0 _ _, x1, .ty "str", _, _, _, rfl, .ty "str", ty_of hx, kit_str x, ?_⟩
      cases x with
      | str z =>
        obtain ⟨hz, hzl⟩ := (show x1 = .str z ∧ z.length ≤ 1000 from hx)
        cases hz
        refine ⟨_, rfl, ?_⟩
        refine iteF ?_
        by_cases hw : z ∈ words
        · obtain ⟨fz, e1, e2⟩ := T.formIn z hw
          refine ⟨rfl, _, rfl, a, _, 0, _, rfl, rfl, SqT.of ha, at0 _ _, z, _, .ref fz, rfl, e1, rfl, ?_⟩
          refine ⟨_, rfl, rfl, _, rfl, ?_⟩
          rw [show (!decide (V.ref fz = V.non)) = true by rw [decide_eq_false (by intro e; cases e)]; rfl]
          refine iteT ?_
          exact ⟨fz, _, rfl, e2, _, rfl, B, .ref a, z, r, rfl, hat, hsz, fun H1 s1 => q H1 s1⟩
        · refine ⟨rfl, _, rfl, a, _, 0, _, rfl, rfl, SqT.of ha, at0 _ _, z, _, .non, rfl, T.formOut z hw, rfl, ?_⟩
          refine ⟨_, rfl, rfl, _, rfl, ?_⟩
          rw [show (!decide (V.non = V.non)) = false by rw [decide_eq_true rfl]; rfl]
          refine iteF ?_
          have q' := q H same
          rw [show formB (.tup (.str z :: r)) = false from form_out hw r] at q'
          exact q'
      | int i => exact ⟨_, rfl, iteT (q H same)⟩
      | bl b => exact ⟨_, rfl, iteT (q H same)⟩
      | non => exact ⟨_, rfl, iteT (q H same)⟩
      | tup l => exact ⟨_, rfl, iteT (q H same)⟩
      | lst l => exact ⟨_, rfl, iteT (q H same)⟩
  | int i => exact ⟨_, rfl, iteT (iteT (q H same))⟩
  | bl b => exact ⟨_, rfl, iteT (iteT (q H same))⟩
  | non => exact ⟨_, rfl, iteT (iteT (q H same))⟩
  | str s => exact ⟨_, rfl, iteT (iteT (q H same))⟩
  | lst l => exact ⟨_, rfl, iteT (iteT (q H same))⟩
/-- a def that gives the parts of one form -/
def spPart (C : List Dd → Prop) (g : List Dd → List Dd) : Sp := fun vs H Q _ => ∃ (B : Addr → Prop) (v : V) (w : Str) (r : List Dd), vs = [v] ∧ (Dd.tup (.str w :: r)).At B H v ∧ (Dd.tup (.str w :: r)).sz ≤ 1000000 ∧ C r ∧ ∀ (b : Addr) (xs : List V) (H' : Hp), Same H H' → H' b = some (.tup xs) → Dd.Ats B H' (g r) xs → Q (.ref b) H'
abbrev sPApp : Stmt := topS 37
theorem scPApp : FnScope ["term"] ["term"] (defScope sPApp) := ⟨rfl, rfl, rfl, by decide +kernel, rfl, by decide +kernel, by decide +kernel⟩
theorem c_PApp {f : Addr} {fd : FuncData} (F : Fun K "_app_parts" "_app_parts" sPApp f fd) (b : Binds K fd ["term"] []) (hm : mg "_app_parts" = some (.ref f)) : C8.Cal P w K mg base 2 "_app_parts" (spPart (fun r => r.length = 2) fun r => r) [] := by
  refine cal_of F hm b scPApp (fun vs H Q E h => ?_) (fun cdv A outer s H vs Q E hr h => ?_)
  · obtain ⟨B, v, w', r, rfl, _⟩ := h
    rfl
  obtain ⟨B, v, w', r, rfl, hat, hsz, hc, q⟩ := h
  refine ⟨_, (pss_one (ps_ret (pe_slice sl_tupA (pv 0) (po_some pe_int) po_none))), ?_⟩
  obtain ⟨a, ys, rfl, ha, hs, hyl, hw⟩ := head_at hat
  refine ⟨_, rfl, _, rfl, a, _, rfl, SqT.of ha, fun h => absurd h.1 (cut_no1 1 _ _ (by rw [List.length_cons]; omega)), fun _ p hp => ?_⟩
  rw [show cutV (V.str w' :: ys) (some 1) none = ys from cut_from (.str w' :: ys) 1 (by rw [List.length_cons]; omega)]
  exact q p ys _ (same_new hp _) upd_same (hs.keep (fr_same (same_new hp _)))
abbrev sPLater : Stmt := topS 38
theorem scPLater : FnScope ["term"] ["term"] (defScope sPLater) := ⟨rfl, rfl, rfl, by decide +kernel, rfl, by decide +kernel, by decide +kernel⟩
theorem c_PLater {f : Addr} {fd : FuncData} (F : Fun K "_later_parts" "_later_parts" sPLater f fd) (b : Binds K fd ["term"] []) (hm : mg "_later_parts" = some (.ref f)) : C8.Cal P w K mg base 2 "_later_parts" (spPart (fun r => r.length = 3) fun r => r.drop 1) [] := by
  refine cal_of F hm b scPLater (fun vs H Q E h => ?_) (fun cdv A outer s H vs Q E hr h => ?_)
  · obtain ⟨B, v, w', r, rfl, _⟩ := h
    rfl
  obtain ⟨B, v, w', r, rfl, hat, hsz, hc, q⟩ := h
  refine ⟨_, (pss_one (ps_ret (pe_slice sl_tupA (pv 0) (po_some pe_int) po_none))), ?_⟩
  obtain ⟨a, ys, rfl, ha, hs, hyl, hw⟩ := head_at hat
  refine ⟨_, rfl, _, rfl, a, _, rfl, SqT.of ha, fun h => absurd h.1 (cut_no1 2 _ _ (by rw [List.length_cons]; omega)), fun _ p hp => ?_⟩
  rw [show cutV (V.str w' :: ys) (some 2) none = ys.drop 1 from cut_from (.str w' :: ys) 2 (by rw [List.length_cons]; omega)]
  exact q p (ys.drop 1) _ (same_new hp _) upd_same ((ats_drop hs).keep (fr_same (same_new hp _)))
abbrev sPLam : Stmt := topS 35
theorem scPLam : FnScope ["term"] ["term"] (defScope sPLam) := ⟨rfl, rfl, rfl, by decide +kernel, rfl, by decide +kernel, by decide +kernel⟩
theorem c_PLam {f : Addr} {fd : FuncData} (F : Fun K "_lam_body" "_lam_body" sPLam f fd) (b : Binds K fd ["term"] []) (hm : mg "_lam_body" = some (.ref f)) : C8.Cal P w K mg base 2 "_lam_body" (spPart (fun r => r.length = 2) fun r => [arg 1 r]) [] := by
  refine cal_of F hm b scPLam (fun vs H Q E h => ?_) (fun cdv A outer s H vs Q E hr h => ?_)
  · obtain ⟨B, v, w', r, rfl, _⟩ := h
    rfl
  obtain ⟨B, v, w', r, rfl, hat, hsz, hc, q⟩ := h
  refine ⟨_, (pss_one (ps_ret (pe_tup (pa_cons (pe_ix ix_tup (pv 0) pe_int (fun _ _ => rfl)) pa_nil)))), ?_⟩
  obtain ⟨a, ys, rfl, ha, hs, hyl, hw⟩ := head_at hat
  obtain ⟨x, hx, hxa⟩ := arg_at (v0 := .str w') hs (i := 1) (by omega)
  refine ⟨_, rfl, a, _, 2, _, rfl, rfl, SqT.of ha, hx, by show 1 ≤ sizeLine; decide, fun t ht => ?_⟩
  exact q t [x] _ (same_new ht _) upd_same (ats_one (hxa.keep (fr_same (same_new ht _))))
abbrev sPNote : Stmt := topS 36
theorem scPNote : FnScope ["term"] ["term"] (defScope sPNote) := ⟨rfl, rfl, rfl, by decide +kernel, rfl, by decide +kernel, by decide +kernel⟩
theorem c_PNote {f : Addr} {fd : FuncData} (F : Fun K "_note_parts" "_note_parts" sPNote f fd) (b : Binds K fd ["term"] []) (hm : mg "_note_parts" = some (.ref f)) : C8.Cal P w K mg base 2 "_note_parts" (spPart (fun r => r.length = 2) fun r => [arg 1 r]) [] := by
  refine cal_of F hm b scPNote (fun vs H Q E h => ?_) (fun cdv A outer s H vs Q E hr h => ?_)
  · obtain ⟨B, v, w', r, rfl, _⟩ := h
    rfl
  obtain ⟨B, v, w', r, rfl, hat, hsz, hc, q⟩ := h
  refine ⟨_, (pss_one (ps_ret (pe_tup (pa_cons (pe_ix ix_tup (pv 0) pe_int (fun _ _ => rfl)) pa_nil)))), ?_⟩
  obtain ⟨a, ys, rfl, ha, hs, hyl, hw⟩ := head_at hat
  obtain ⟨x, hx, hxa⟩ := arg_at (v0 := .str w') hs (i := 1) (by omega)
  refine ⟨_, rfl, a, _, 2, _, rfl, rfl, SqT.of ha, hx, by show 1 ≤ sizeLine; decide, fun t ht => ?_⟩
  exact q t [x] _ (same_new ht _) upd_same (ats_one (hxa.keep (fr_same (same_new ht _))))
abbrev sPCon : Stmt := topS 39
theorem scPCon : FnScope ["term"] ["term"] (defScope sPCon) := ⟨rfl, rfl, rfl, by decide +kernel, rfl, by decide +kernel, by decide +kernel⟩
theorem c_PCon {f : Addr} {fd : FuncData} (F : Fun K "_con_parts" "_con_parts" sPCon f fd) (b : Binds K fd ["term"] []) (hm : mg "_con_parts" = some (.ref f)) : C8.Cal P w K mg base 2 "_con_parts" (spPart (fun r => r.length = 2 ∧ isTup (arg 1 r) = true) fun r => tl (arg 1 r)) [] := by
  refine cal_of F hm b scPCon (fun vs H Q E h => ?_) (fun cdv A outer s H vs Q E hr h => ?_)
  · obtain ⟨B, v, w', r, rfl, _⟩ := h
    rfl
  obtain ⟨B, v, w', r, rfl, hat, hsz, ⟨hc, hc2⟩, q⟩ := h
  refine ⟨_, (pss_one (ps_ret (pe_ix ix_tup (pv 0) pe_int (fun _ _ => rfl)))), ?_⟩
  obtain ⟨a, ys, rfl, ha, hs, hyl, hw⟩ := head_at hat
  obtain ⟨x, hx, hxa⟩ := arg_at (v0 := .str w') hs (i := 1) (by omega)
  cases hk : arg 1 r with
  | tup l =>
    rw [hk] at hxa
    obtain ⟨b2, xs2, rfl, hb, hbs⟩ := hxa
    refine ⟨_, rfl, a, _, 2, _, rfl, rfl, SqT.of ha, hx, q b2 xs2 H (fun _ _ e => e) hb ?_⟩
    show Dd.Ats B H (tl (arg 1 r)) xs2
    rw [hk]
    exact hbs
  | int i => rw [hk] at hc2; cases hc2
  | bl b => rw [hk] at hc2; cases hc2
  | non => rw [hk] at hc2; cases hc2
  | str s => rw [hk] at hc2; cases hc2
  | lst l => rw [hk] at hc2; cases hc2
/-- pairs, in a tuple -/
def PairsD (k : Dd) : Prop := ∃ l, k = .tup l ∧ ∀ q ∈ l, ∃ m, q = .tup m ∧ m.length = 2
abbrev sPLet : Stmt := topS 40
theorem scPLet : FnScope ["term", "_", "inner"] ["term"] (defScope sPLet) := ⟨rfl, rfl, rfl, by decide +kernel, rfl, by decide +kernel, by decide +kernel⟩
theorem c_PLet {f : Addr} {fd : FuncData} (F : Fun K "_let_parts" "_let_parts" sPLet f fd) (b : Binds K fd ["term"] []) (hm : mg "_let_parts" = some (.ref f)) : C8.Cal P w K mg base 2 "_let_parts" (spPart (fun r => r.length = 2 ∧ PairsD (arg 0 r)) gLet) [] := by
  refine cal_of F hm b scPLet (fun vs H Q E h => ?_) (fun cdv A outer s H vs Q E hr h => ?_)
  · obtain ⟨B, v, w', r, rfl, _⟩ := h
    rfl
  obtain ⟨B, v, w', r, rfl, hat, hsz, ⟨hc, l, el, hrows⟩, q⟩ := h
  refine ⟨_, (pss_one (ps_ret (pe_tup (StX.pa_star (pe_lc (own := [("_", 1), ("inner", 2)]) (g := gTup K 2 (gCons (gName 1) (gCons (gName 2) (gNil)))) (tt := tYes) rfl scPLet.nd (pi_tup (pe_ix ix_tup (pv 0) pe_int (fun _ _ => rfl))) (blkOk_by (own := [("_", 1), ("inner", 2)]) (N := ["term", "_", "inner"]) (sc := defScope sPLet) (by decide +kernel)) (fun _ _ _ _ _ => (pg_tup rfl (pgs_cons (pg_name (i := 1) scPLet.nd rfl (Or.inl rfl)) (pgs_cons (pg_name (i := 2) scPLet.nd rfl (Or.inl rfl)) pgs_nil)))) (fun _ _ _ _ _ => pts_nil) (fun _ _ _ _ _ => (pv 2))) (pa_cons (pe_ix ix_tup (pv 0) pe_int (fun _ _ => rfl)) pa_nil))))), ?_⟩
  obtain ⟨a, ys, rfl, ha, hs, hyl, hw⟩ := head_at hat
  obtain ⟨x, hx, hxa⟩ := arg_at (v0 := .str w') hs (i := 0) (by omega)
  obtain ⟨y, hy, hya⟩ := arg_at (v0 := .str w') hs (i := 1) (by omega)
  have hz := arg_sz (w := w') (r := r) 0
  rw [el] at hxa hz
  obtain ⟨b2, xs2, rfl, hb, hbs⟩ := hxa
  have hxl := ats_len hbs
  have hlz := szs_len l
  have hz : 1 + Dd.szs l ≤ _ := hz
  refine ⟨_, rfl, a, _, 1, _, rfl, rfl, SqT.of ha, hx, b2, rfl, ⟨_, SqT.of hb⟩, fun D hD => ?_⟩
  refine lc_tup (K := K) (a := b2) (xs := xs2) (fun i G => Same H G ∧ ∃ zs, G D = some (.lst zs) ∧ Dd.Ats B H ((l.take i).map (nth 1)) zs) ⟨same_new hD _, [], upd_same, rfl⟩ (fun i G hi ⟨h1, _⟩ => SqT.of (h1 _ _ hb)) ?_ ?_
  · rintro i x G hx ⟨h1, zs, h2, h3⟩
    obtain ⟨k, hk, hkat⟩ := ats_get hbs hx
    have hil : i < l.length := (List.getElem?_eq_some_iff.mp hk).1
    obtain ⟨m, rfl, hm2⟩ := hrows k (List.mem_of_getElem? hk)
    obtain ⟨t, x1, y1, rfl, ht, hx1, hy1⟩ := pair_at hkat hm2
    have hzl := ats_len h3
    rw [List.length_map, List.length_take] at hzl
    refine ⟨t, _, rfl, SqT.of (h1 _ _ ht), rfl, _, _, rfl, _, _, rfl, rfl, rfl, ?_⟩
    refine tYes_if ?_
    refine ⟨_, rfl, zs, h2, ?_, same_upd hD h1 _, zs ++ [y1], upd_same, ?_⟩
    · have := big; omega
    · rw [List.take_add_one, hk, List.map_append]
      exact ats_app h3 (ats_one hy1)
  rintro G ⟨h1, zs, h2, h3⟩
  rw [hxl, List.take_length] at h3
  have hzl := ats_len h3
  rw [List.length_map] at hzl
  refine ⟨D, zs, rfl, .inr (SqL.of h2), _, rfl, a, _, 2, _, rfl, rfl, SqT.of (h1 _ _ ha), hy, ?_, fun t ht => ?_⟩
  · have := big
    rw [List.length_append]
    show zs.length + 1 ≤ _
    omega
  have s3 := sameT h1 (same_new ht (.tup (zs ++ [y])))
  refine q t _ _ s3 upd_same ?_
  unfold gLet
  rw [el]
  exact ats_app (h3.keep (fr_same s3)) (ats_one (hya.keep (fr_same s3)))
theorem last_at {B : Addr → Prop} {H : Hp} {m : List Dd} {ys : List V} (h : Dd.Ats B H m ys) (hm : 0 < m.length) : ∃ y, atI ys (-1) = some y ∧ (lastD (.tup m)).At B H y := by
  have hl := ats_len h
  obtain ⟨y, hy, hya⟩ := ats_getI h (List.getElem?_eq_getElem (show m.length - 1 < m.length by omega))
  refine ⟨y, ?_, ?_⟩
  · have e : ixN ys.length (-1) = some (ys.length - 1) := by
      unfold ixN
      rw [if_neg (by decide), if_pos (by omega)]
      exact congrArg some (by omega)
    show (ixN ys.length (-1)).bind (fun j => ys[j]?) = _
    rw [e]
    show ys[ys.length - 1]? = _
    rw [hl]
    exact hy
  · show (m.getLastD .non).At B H y
    rw [List.getLastD_eq_getLast?, List.getLast?_eq_getElem?, List.getElem?_eq_getElem (show m.length - 1 < m.length by omega)]
    exact hya
abbrev sPDflt : Stmt := topS 34
theorem scPDflt : FnScope ["term"] ["term"] (defScope sPDflt) := ⟨rfl, rfl, rfl, by decide +kernel, rfl, by decide +kernel, by decide +kernel⟩
theorem c_PDflt {f : Addr} {fd : FuncData} (F : Fun K "_default_parts" "_default_parts" sPDflt f fd) (b : Binds K fd ["term"] []) (hm : mg "_default_parts" = some (.ref f)) : C8.Cal P w K mg base 1 "_default_parts" (spPart (fun r => r.length = 3 ∧ isDflt (arg 2 r) = true) fun r => dfltP (arg 2 r)) [] := by
  refine cal_of F hm b scPDflt (fun vs H Q E h => ?_) (fun cdv A outer s H vs Q E hr h => ?_)
  · obtain ⟨B, v, w', r, rfl, _⟩ := h
    rfl
  obtain ⟨B, v, w', r, rfl, hat, hsz, ⟨hc, hd⟩, q⟩ := h
  refine ⟨_, (pss_one (ps_ret (pe_ifExp (pt_cmpR op_isN (pe_ix ix_tup (pv 0) pe_int (fun _ _ => rfl)) pe_non (nomark _)) (pe_tup pa_nil) (pe_tup (pa_cons (pe_ix ix_tup (pe_ix ix_tup (pv 0) pe_int (fun _ _ => rfl)) pe_int (fun _ _ => rfl)) pa_nil))))), ?_⟩
  obtain ⟨a, ys, rfl, ha, hs, hyl, hw⟩ := head_at hat
  obtain ⟨x, hx, hxa⟩ := arg_at (v0 := .str w') hs (i := 2) (by omega)
  refine ⟨_, rfl, a, _, 3, _, rfl, rfl, SqT.of ha, hx, rfl, _, rfl, ?_⟩
  by_cases hk : arg 2 r = .non
  · rw [hk] at hxa
    cases (show x = .non from hxa)
    rw [decide_eq_true rfl]
    refine iteT ?_
    refine ⟨by show 0 ≤ sizeLine; decide, fun t ht => q t [] _ (same_new ht _) upd_same ?_⟩
    show Dd.Ats B _ (dfltP (arg 2 r)) []
    rw [hk]
    exact rfl
  · rw [decide_eq_false (ne_non hxa hk)]
    refine iteF ?_
    have hd2 := hd
    rw [dflt_eq hk, Bool.and_eq_true] at hd2
    have e2 : dfltP (arg 2 r) = [nth 1 (arg 2 r)] := by
      cases h : arg 2 r with
      | non => exact absurd h hk
      | tup l => rfl
      | int i => rfl
      | bl b => rfl
      | str s => rfl
      | lst l => rfl
    cases h : arg 2 r with
    | tup l =>
      rw [h] at hxa hd2 e2
      have hl2 : l.length = 2 := of_decide_eq_true hd2.1
      obtain ⟨b2, xs2, rfl, hb, hbs⟩ := hxa
      obtain ⟨y, hy, hya⟩ := nth_at hbs (i := 1) (by omega)
      refine ⟨_, rfl, a, _, 3, _, rfl, rfl, SqT.of ha, hx, b2, _, 1, _, rfl, rfl, SqT.of hb, hy, by show 1 ≤ sizeLine; decide, fun t ht => ?_⟩
      refine q t [y] _ (same_new ht _) upd_same ?_
      show Dd.Ats B _ (dfltP (arg 2 r)) [y]
      rw [h, e2]
      exact ats_one (hya.keep (fr_same (same_new ht _)))
    | non => exact absurd h hk
    | int i => rw [h] at hd2; cases hd2.1
    | bl b => rw [h] at hd2; cases hd2.1
    | str s => rw [h] at hd2; cases hd2.1
    | lst l => rw [h] at hd2; cases hd2.1
/-- rows that are not empty, in a tuple -/
def RowsD (k : Dd) : Prop := ∃ l, k = .tup l ∧ ∀ q ∈ l, ∃ m, q = .tup m ∧ 0 < m.length
abbrev sPChoice : Stmt := topS 41
theorem scPChoice : FnScope ["term", "alternative"] ["term"] (defScope sPChoice) := ⟨rfl, rfl, rfl, by decide +kernel, rfl, by decide +kernel, by decide +kernel⟩
theorem c_PChoice {f : Addr} {fd : FuncData} (c_default_parts : C8.Cal P w K mg base 1 "_default_parts" (spPart (fun r => r.length = 3 ∧ isDflt (arg 2 r) = true) fun r => dfltP (arg 2 r)) []) (F : Fun K "_choice_parts" "_choice_parts" sPChoice f fd) (b : Binds K fd ["term"] []) (hm : mg "_choice_parts" = some (.ref f)) : C8.Cal P w K mg base 2 "_choice_parts" (spPart (fun r => r.length = 3 ∧ RowsD (arg 1 r) ∧ isDflt (arg 2 r) = true) gChoice) [] := by
  refine cal_of F hm b scPChoice (fun vs H Q E h => ?_) (fun cdv A outer s H vs Q E hr h => ?_)
  · obtain ⟨B, v, w', r, rfl, _⟩ := h
    rfl
  obtain ⟨B, v, w', r, rfl, hat, hsz, ⟨hc, ⟨l, el, hrows⟩, hd⟩, q⟩ := h
  refine ⟨_, (pss_one (ps_ret (pe_tup (pa_cons (pe_ix ix_tup (pv 0) pe_int (fun _ _ => rfl)) (StX.pa_star (pe_lc (own := [("alternative", 1)]) (g := gName 1) (tt := tYes) (te := (tOp (rIxT K) (tVar 1) (tUn (rU fun i => V.int (-i)) (tC (.int 1))))) rfl scPChoice.nd (pi_tup (pe_ix ix_tup (pv 0) pe_int (fun _ _ => rfl))) (blkOk_by (own := [("alternative", 1)]) (N := ["term", "alternative"]) (sc := defScope sPChoice) (by decide +kernel)) (fun _ _ _ _ _ => (pg_name (i := 1) scPChoice.nd rfl (Or.inl rfl))) (fun _ _ _ _ _ => pts_nil) (fun _ _ _ _ _ => (pe_ix ix_tup (pv 1) (pe_un un_neg pe_int) (fun _ _ => rfl)))) (StX.pa_star (C8.pe_c c_default_parts hr (by decide) rfl (pa_cons (pv 0) pa_nil)) pa_nil)))))), ?_⟩
  obtain ⟨a, ys, rfl, ha, hs, hyl, hw⟩ := head_at hat
  obtain ⟨x0, hx0, hxa0⟩ := arg_at (v0 := .str w') hs (i := 0) (by omega)
  obtain ⟨x, hx, hxa⟩ := arg_at (v0 := .str w') hs (i := 1) (by omega)
  have hz := arg_sz (w := w') (r := r) 1
  rw [el] at hxa hz
  obtain ⟨b2, xs2, rfl, hb, hbs⟩ := hxa
  have hxl := ats_len hbs
  have hlz := szs_len l
  have hz : 1 + Dd.szs l ≤ _ := hz
  refine ⟨_, rfl, a, _, 1, _, rfl, rfl, SqT.of ha, hx0, ?_⟩
  refine ⟨_, rfl, a, _, 2, _, rfl, rfl, SqT.of ha, hx, b2, rfl, ⟨_, SqT.of hb⟩, fun D hD => ?_⟩
  refine lc_tup (K := K) (a := b2) (xs := xs2) (fun i G => Same H G ∧ ∃ zs, G D = some (.lst zs) ∧ Dd.Ats B H ((l.take i).map lastD) zs) ⟨same_new hD _, [], upd_same, rfl⟩ (fun i G hi ⟨h1, _⟩ => SqT.of (h1 _ _ hb)) ?_ ?_
  · rintro i x G hx ⟨h1, zs, h2, h3⟩
    obtain ⟨k, hk, hkat⟩ := ats_get hbs hx
    have hil : i < l.length := (List.getElem?_eq_some_iff.mp hk).1
    obtain ⟨m, rfl, hm2⟩ := hrows k (List.mem_of_getElem? hk)
    obtain ⟨t, xs3, rfl, ht, hts⟩ := hkat
    obtain ⟨y1, hy1, hya1⟩ := last_at hts hm2
    have hzl := ats_len h3
    rw [List.length_map, List.length_take] at hzl
    refine ⟨rfl, ?_⟩
    refine tYes_if ?_
    refine ⟨_, rfl, _, rfl, t, _, -1, _, rfl, rfl, SqT.of (h1 _ _ ht), hy1, zs, h2, ?_, same_upd hD h1 _, zs ++ [y1], upd_same, ?_⟩
    · have := big; omega
    · rw [List.take_add_one, hk, List.map_append]
      exact ats_app h3 (ats_one hya1)
  rintro G ⟨h1, zs, h2, h3⟩
  rw [hxl, List.take_length] at h3
  have hzl := ats_len h3
  rw [List.length_map] at hzl
  refine ⟨D, zs, rfl, .inr (SqL.of h2), ?_⟩
  refine ⟨_, rfl, B, .ref a, w', r, rfl, hat.keep (fr_same h1), hsz, ⟨hc, hd⟩, fun b3 xs3 G2 s2 hb3 hats3 => ?_⟩
  have hd3 : xs3.length ≤ 1 := by
    rw [ats_len hats3]
    show (dfltP (arg 2 r)).length ≤ 1
    unfold dfltP
    split <;> simp
  refine ⟨b3, xs3, rfl, .inl (SqT.of hb3), ?_, fun t ht => ?_⟩
  · have := big
    simp only [List.append_nil, List.length_cons, List.length_append]
    omega
  have s12 := sameT h1 s2
  have s3 := same_new ht (.tup (x0 :: (zs ++ (xs3 ++ []))))
  refine q t _ _ (sameT s12 s3) upd_same ?_
  generalize upd G2 t (.tup (x0 :: (zs ++ (xs3 ++ [])))) = G3 at s3 ⊢
  unfold gChoice
  rw [el, List.append_nil]
  exact ⟨x0, _, rfl, hxa0.keep (fr_same (sameT s12 s3)), ats_app (h3.keep (fr_same (sameT s12 s3))) (hats3.keep (fr_same s3))⟩
end
end Toy

set_option Elab.async false
set_option linter.all false
set_option maxRecDepth 100000
set_option maxHeartbeats 4000000
/-! Part G: the parts of any term; whether something is a term. -/
namespace Toy
open PySem L2
open PyProof.Rows (envOfC)
def pwords : List Str := ["app", "lam", "let", "seq", "con", "case", "pick", "prim", "note"]
theorem parts_out {z : Str} (h : z ∉ pwords) (r : List Dd) : partsW z r = [] := by
  simp only [pwords, List.mem_cons, List.not_mem_nil, or_false, not_or] at h
  obtain ⟨h3, h4, h5, h6, h7, h8, h9, h10, h11⟩ := h
  unfold partsW
  rw [if_neg h3, if_neg h4, if_neg h5, if_neg h6, if_neg h7, if_neg h8, if_neg h9, if_neg h10, if_neg h11]
structure TxtN (P : Program) (w : World) (K : PySem.W.Frag) (mg : Str → Option Value) (base : Heap) (aP : Addr) (es : Array DictEntry) (n : Nat) (sP : Addr → Option Sp) : Prop where
  kP : KDict K w aP es n
  gPARTS : ∃ u, mg "PARTS" = some u ∧ RelV (.ref aP) u
  partIn : ∀ z ∈ pwords, ∃ f C g, PySem.W.nsIn K aP z = some (some (.ref f)) ∧ sP f = some (spPart C g) ∧ (∀ r, formW z r = true → C r) ∧ ∀ r, partsW z r = g r
  partOut : ∀ z, z ∉ pwords → PySem.W.nsIn K aP z = some none
  heldP : ∀ f sp, sP f = some sp → Held P w K mg base 2 f sp
section
variable {P : Program} {w : World} {K : PySem.W.Frag} {mg : Str → Option Value} {base : Heap} {aP : Addr} {es : Array DictEntry} {n : Nat} {sP : Addr → Option Sp}
theorem form_tup {k : Dd} (h : formB k = true) : ∃ z r, k = .tup (.str z :: r) ∧ formW z r = true := by
  cases k with
  | tup l =>
    cases l with
    | nil => cases h
    | cons x r =>
      cases x with
      | str z => exact ⟨z, r, rfl, h⟩
      | int i => cases h
      | bl b => cases h
      | non => cases h
      | tup l => cases h
      | lst l => cases h
  | int i => cases h
  | bl b => cases h
  | non => cases h
  | str s => cases h
  | lst l => cases h
abbrev sParts : Stmt := topS 33
theorem scParts : FnScope ["term", "find"] ["term"] (defScope sParts) := ⟨rfl, rfl, rfl, by decide +kernel, rfl, by decide +kernel, by decide +kernel⟩
def spParts : Sp := fun vs H Q _ => ∃ (B : Addr → Prop) (v : V) (k : Dd), vs = [v] ∧ k.At B H v ∧ formB k = true ∧ k.sz ≤ 1000000 ∧ ∀ (b : Addr) (xs : List V) (H' : Hp), Same H H' → H' b = some (.tup xs) → Dd.Ats B H' (partsD k) xs → Q (.ref b) H'
theorem c_parts {f : Addr} {fd : FuncData} (T : TxtN P w K mg base aP es n sP) (F : Fun K "parts_of" "parts_of" sParts f fd) (b : Binds K fd ["term"] []) (hm : mg "parts_of" = some (.ref f)) : C8.Cal P w K mg base 3 "parts_of" spParts [] := by
  refine cal_of F hm b scParts (fun vs H Q E h => ?_) (fun cdv A outer s H vs Q E hr h => ?_)
  · obtain ⟨B, v, k, rfl, _⟩ := h
    rfl
  obtain ⟨B, v, k, rfl, hat, hform, hsz, q⟩ := h
  refine ⟨_, (pss_cons (ps_set (i := 1) scParts.nd rfl (Or.inl rfl) (pe_kget T.kP (C8.pe_gc rfl T.gPARTS) (pe_ix ix_tup (pv 0) pe_int (fun _ _ => rfl)) ⟨rfl, rfl, rfl, rfl⟩))
    (pss_one (ps_ret (pe_ifExp (pt_cmpR op_isN (pv 1) pe_non (nomark _)) (pe_tup pa_nil) (pe_callA (i := 1) T.heldP (hr.mono (by decide)) rfl (Or.inl rfl) (pa_cons (pv 0) pa_nil)))))), ?_⟩
  obtain ⟨z, r, rfl, hf⟩ := form_tup hform
  obtain ⟨a, ys, rfl, ha, hs, hyl, hw⟩ := head_at hat
  by_cases hp : z ∈ pwords
  · obtain ⟨fz, C, g, e1, e2, e3, e4⟩ := T.partIn z hp
    refine ⟨rfl, _, rfl, a, _, 0, _, rfl, rfl, SqT.of ha, at0 _ _, z, _, .ref fz, rfl, e1, rfl, ?_⟩
    refine ⟨_, rfl, rfl, _, rfl, ?_⟩
    rw [decide_eq_false (show ¬ V.ref fz = V.non by intro e; cases e)]
    refine iteF ?_
    refine ⟨fz, _, rfl, e2, _, rfl, B, .ref a, z, r, rfl, hat, hsz, e3 r hf, fun b2 xs H' s' hb hats => q b2 xs H' s' hb ?_⟩
    show Dd.Ats B H' (partsW z r) xs
    rw [e4 r]
    exact hats
  · refine ⟨rfl, _, rfl, a, _, 0, _, rfl, rfl, SqT.of ha, at0 _ _, z, _, .non, rfl, T.partOut z hp, rfl, ?_⟩
    refine ⟨_, rfl, rfl, _, rfl, ?_⟩
    rw [decide_eq_true rfl]
    refine iteT ?_
    refine ⟨by show 0 ≤ sizeLine; decide, fun t ht => q t [] _ (same_new ht _) upd_same ?_⟩
    show Dd.Ats B _ (partsW z r) []
    rw [parts_out hp]
    exact rfl
/-! ### is_term -/
theorem szs_tl (k : Dd) : Dd.szs (tl k) ≤ k.sz - 1 := by
  cases k with
  | tup l => show Dd.szs l ≤ 1 + Dd.szs l - 1; omega
  | int i => exact Nat.zero_le _
  | bl b => exact Nat.zero_le _
  | non => exact Nat.zero_le _
  | str s => exact Nat.zero_le _
  | lst l => exact Nat.zero_le _
theorem fw_num (r : List Dd) : formW "num" r = fNum r := by
  unfold formW
  rw [if_pos rfl]
theorem fw_var (r : List Dd) : formW "var" r = fVar r := by
  unfold formW
  rw [if_neg (show ¬ ("var" : Str) = "num" by decide +kernel), if_pos rfl]
theorem fw_app (r : List Dd) : formW "app" r = fApp r := by
  unfold formW
  rw [if_neg (show ¬ ("app" : Str) = "num" by decide +kernel), if_neg (show ¬ ("app" : Str) = "var" by decide +kernel), if_pos rfl]
theorem fw_lam (r : List Dd) : formW "lam" r = fLam r := by
  unfold formW
  rw [if_neg (show ¬ ("lam" : Str) = "num" by decide +kernel), if_neg (show ¬ ("lam" : Str) = "var" by decide +kernel), if_neg (show ¬ ("lam" : Str) = "app" by decide +kernel), if_pos rfl]
theorem fw_let (r : List Dd) : formW "let" r = fLet r := by
  unfold formW
  rw [if_neg (show ¬ ("let" : Str) = "num" by decide +kernel), if_neg (show ¬ ("let" : Str) = "var" by decide +kernel), if_neg (show ¬ ("let" : Str) = "app" by decide +kernel), if_neg (show ¬ ("let" : Str) = "lam" by decide +kernel), if_pos rfl]
theorem fw_seq (r : List Dd) : formW "seq" r = fSeq r := by
  unfold formW
  rw [if_neg (show ¬ ("seq" : Str) = "num" by decide +kernel), if_neg (show ¬ ("seq" : Str) = "var" by decide +kernel), if_neg (show ¬ ("seq" : Str) = "app" by decide +kernel), if_neg (show ¬ ("seq" : Str) = "lam" by decide +kernel), if_neg (show ¬ ("seq" : Str) = "let" by decide +kernel), if_pos rfl]
theorem fw_con (r : List Dd) : formW "con" r = fCon r := by
  unfold formW
  rw [if_neg (show ¬ ("con" : Str) = "num" by decide +kernel), if_neg (show ¬ ("con" : Str) = "var" by decide +kernel), if_neg (show ¬ ("con" : Str) = "app" by decide +kernel), if_neg (show ¬ ("con" : Str) = "lam" by decide +kernel), if_neg (show ¬ ("con" : Str) = "let" by decide +kernel), if_neg (show ¬ ("con" : Str) = "seq" by decide +kernel), if_pos rfl]
theorem fw_case (r : List Dd) : formW "case" r = fCase r := by
  unfold formW
  rw [if_neg (show ¬ ("case" : Str) = "num" by decide +kernel), if_neg (show ¬ ("case" : Str) = "var" by decide +kernel), if_neg (show ¬ ("case" : Str) = "app" by decide +kernel), if_neg (show ¬ ("case" : Str) = "lam" by decide +kernel), if_neg (show ¬ ("case" : Str) = "let" by decide +kernel), if_neg (show ¬ ("case" : Str) = "seq" by decide +kernel), if_neg (show ¬ ("case" : Str) = "con" by decide +kernel), if_pos rfl]
theorem fw_pick (r : List Dd) : formW "pick" r = fPick r := by
  unfold formW
  rw [if_neg (show ¬ ("pick" : Str) = "num" by decide +kernel), if_neg (show ¬ ("pick" : Str) = "var" by decide +kernel), if_neg (show ¬ ("pick" : Str) = "app" by decide +kernel), if_neg (show ¬ ("pick" : Str) = "lam" by decide +kernel), if_neg (show ¬ ("pick" : Str) = "let" by decide +kernel), if_neg (show ¬ ("pick" : Str) = "seq" by decide +kernel), if_neg (show ¬ ("pick" : Str) = "con" by decide +kernel), if_neg (show ¬ ("pick" : Str) = "case" by decide +kernel), if_pos rfl]
theorem fw_prim (r : List Dd) : formW "prim" r = fPrim r := by
  unfold formW
  rw [if_neg (show ¬ ("prim" : Str) = "num" by decide +kernel), if_neg (show ¬ ("prim" : Str) = "var" by decide +kernel), if_neg (show ¬ ("prim" : Str) = "app" by decide +kernel), if_neg (show ¬ ("prim" : Str) = "lam" by decide +kernel), if_neg (show ¬ ("prim" : Str) = "let" by decide +kernel), if_neg (show ¬ ("prim" : Str) = "seq" by decide +kernel), if_neg (show ¬ ("prim" : Str) = "con" by decide +kernel), if_neg (show ¬ ("prim" : Str) = "case" by decide +kernel), if_neg (show ¬ ("prim" : Str) = "pick" by decide +kernel), if_pos rfl]
theorem fw_note (r : List Dd) : formW "note" r = fNote r := by
  unfold formW
  rw [if_neg (show ¬ ("note" : Str) = "num" by decide +kernel), if_neg (show ¬ ("note" : Str) = "var" by decide +kernel), if_neg (show ¬ ("note" : Str) = "app" by decide +kernel), if_neg (show ¬ ("note" : Str) = "lam" by decide +kernel), if_neg (show ¬ ("note" : Str) = "let" by decide +kernel), if_neg (show ¬ ("note" : Str) = "seq" by decide +kernel), if_neg (show ¬ ("note" : Str) = "con" by decide +kernel), if_neg (show ¬ ("note" : Str) = "case" by decide +kernel), if_neg (show ¬ ("note" : Str) = "pick" by decide +kernel), if_neg (show ¬ ("note" : Str) = "prim" by decide +kernel), if_pos rfl]
theorem pw_app (r : List Dd) : partsW "app" r = r := by
  unfold partsW
  rw [if_pos rfl]
theorem pw_lam (r : List Dd) : partsW "lam" r = [arg 1 r] := by
  unfold partsW
  rw [if_neg (show ¬ ("lam" : Str) = "app" by decide +kernel), if_pos rfl]
theorem pw_let (r : List Dd) : partsW "let" r = gLet r := by
  unfold partsW
  rw [if_neg (show ¬ ("let" : Str) = "app" by decide +kernel), if_neg (show ¬ ("let" : Str) = "lam" by decide +kernel), if_pos rfl]
theorem pw_seq (r : List Dd) : partsW "seq" r = r.drop 1 := by
  unfold partsW
  rw [if_neg (show ¬ ("seq" : Str) = "app" by decide +kernel), if_neg (show ¬ ("seq" : Str) = "lam" by decide +kernel), if_neg (show ¬ ("seq" : Str) = "let" by decide +kernel), if_pos rfl]
theorem pw_con (r : List Dd) : partsW "con" r = tl (arg 1 r) := by
  unfold partsW
  rw [if_neg (show ¬ ("con" : Str) = "app" by decide +kernel), if_neg (show ¬ ("con" : Str) = "lam" by decide +kernel), if_neg (show ¬ ("con" : Str) = "let" by decide +kernel), if_neg (show ¬ ("con" : Str) = "seq" by decide +kernel), if_pos rfl]
theorem pw_case (r : List Dd) : partsW "case" r = gChoice r := by
  unfold partsW
  rw [if_neg (show ¬ ("case" : Str) = "app" by decide +kernel), if_neg (show ¬ ("case" : Str) = "lam" by decide +kernel), if_neg (show ¬ ("case" : Str) = "let" by decide +kernel), if_neg (show ¬ ("case" : Str) = "seq" by decide +kernel), if_neg (show ¬ ("case" : Str) = "con" by decide +kernel), if_pos rfl]
theorem pw_pick (r : List Dd) : partsW "pick" r = gChoice r := by
  unfold partsW
  rw [if_neg (show ¬ ("pick" : Str) = "app" by decide +kernel), if_neg (show ¬ ("pick" : Str) = "lam" by decide +kernel), if_neg (show ¬ ("pick" : Str) = "let" by decide +kernel), if_neg (show ¬ ("pick" : Str) = "seq" by decide +kernel), if_neg (show ¬ ("pick" : Str) = "con" by decide +kernel), if_neg (show ¬ ("pick" : Str) = "case" by decide +kernel), if_pos rfl]
theorem pw_prim (r : List Dd) : partsW "prim" r = r.drop 1 := by
  unfold partsW
  rw [if_neg (show ¬ ("prim" : Str) = "app" by decide +kernel), if_neg (show ¬ ("prim" : Str) = "lam" by decide +kernel), if_neg (show ¬ ("prim" : Str) = "let" by decide +kernel), if_neg (show ¬ ("prim" : Str) = "seq" by decide +kernel), if_neg (show ¬ ("prim" : Str) = "con" by decide +kernel), if_neg (show ¬ ("prim" : Str) = "case" by decide +kernel), if_neg (show ¬ ("prim" : Str) = "pick" by decide +kernel), if_pos rfl]
theorem pw_note (r : List Dd) : partsW "note" r = [arg 1 r] := by
  unfold partsW
  rw [if_neg (show ¬ ("note" : Str) = "app" by decide +kernel), if_neg (show ¬ ("note" : Str) = "lam" by decide +kernel), if_neg (show ¬ ("note" : Str) = "let" by decide +kernel), if_neg (show ¬ ("note" : Str) = "seq" by decide +kernel), if_neg (show ¬ ("note" : Str) = "con" by decide +kernel), if_neg (show ¬ ("note" : Str) = "case" by decide +kernel), if_neg (show ¬ ("note" : Str) = "pick" by decide +kernel), if_neg (show ¬ ("note" : Str) = "prim" by decide +kernel), if_pos rfl]
theorem szs_two {r : List Dd} (h : r.length = 2) : Dd.szs r = (arg 0 r).sz + (arg 1 r).sz := by
  match r, h with
  | [a, b], _ => show a.sz + (b.sz + 0) = a.sz + b.sz; omega
theorem szs_three {r : List Dd} (h : r.length = 3) : Dd.szs r = (arg 0 r).sz + (arg 1 r).sz + (arg 2 r).sz := by
  match r, h with
  | [a, b, c], _ => show a.sz + (b.sz + (c.sz + 0)) = a.sz + b.sz + c.sz; omega
theorem last_sz (k : Dd) : (lastD k).sz ≤ k.sz := by
  cases k with
  | tup l =>
    show (l.getLastD .non).sz ≤ 1 + Dd.szs l
    rw [List.getLastD_eq_getLast?]
    cases h : l.getLast? with
    | none => show 1 ≤ _; omega
    | some q =>
      have := szs_mem (List.mem_of_getLast? h)
      show q.sz ≤ _
      omega
  | int i => exact sz_pos _
  | bl b => exact sz_pos _
  | non => exact sz_pos _
  | str s => exact sz_pos _
  | lst l => exact sz_pos _
theorem lasts_sz : ∀ l : List Dd, Dd.szs (l.map lastD) ≤ Dd.szs l
  | [] => Nat.le_refl _
  | k :: l => by
    have h1 := last_sz k
    have h2 := lasts_sz l
    show (lastD k).sz + Dd.szs (l.map lastD) ≤ k.sz + Dd.szs l
    omega
theorem drop_sz : ∀ r : List Dd, Dd.szs (r.drop 1) ≤ Dd.szs r
  | [] => Nat.le_refl _
  | k :: r => by show Dd.szs r ≤ k.sz + Dd.szs r; omega
theorem dflt_sz (d : Dd) : Dd.szs (dfltP d) ≤ d.sz := by
  have h := nth_sz 1 d
  unfold dfltP
  split
  · exact Nat.zero_le _
  · show (nth 1 d).sz + 0 ≤ d.sz
    omega
theorem fand {a b : Bool} (h : (a && b) = true) : a = true ∧ b = true := by rwa [Bool.and_eq_true] at h
theorem parts_sz {k : Dd} (h : formB k = true) : Dd.szs (partsD k) < k.sz := by
  obtain ⟨z, r, rfl, hf⟩ := form_tup h
  show Dd.szs (partsW z r) < 1 + (1 + Dd.szs r)
  by_cases hp : z ∈ pwords
  · simp only [pwords, List.mem_cons, List.not_mem_nil, or_false] at hp
    rcases hp with e | e | e | e | e | e | e | e | e <;> subst e
    · rw [pw_app]; omega
    · rw [pw_lam]; rw [fw_lam] at hf
      have := szs_two (of_decide_eq_true (fand hf).1)
      show (arg 1 r).sz + 0 < _
      omega
    · rw [pw_let]; rw [fw_let] at hf
      have := szs_two (of_decide_eq_true (fand (fand hf).1).1)
      have h1 := nths_sz 1 (tl (arg 0 r))
      have h2 := szs_tl (arg 0 r)
      unfold gLet
      rw [szs_app]
      show _ + ((arg 1 r).sz + 0) < _
      omega
    · rw [pw_seq]; have := drop_sz r; omega
    · rw [pw_con]; rw [fw_con] at hf
      have := szs_two (of_decide_eq_true (fand hf).1)
      have h2 := szs_tl (arg 1 r)
      omega
    · rw [pw_case]; rw [fw_case] at hf
      have := szs_three (of_decide_eq_true (fand (fand (fand hf).1).1).1)
      have h1 := lasts_sz (tl (arg 1 r))
      have h2 := szs_tl (arg 1 r)
      have h3 := dflt_sz (arg 2 r)
      show (arg 0 r).sz + Dd.szs (_ ++ _) < _
      rw [szs_app]
      omega
    · rw [pw_pick]; rw [fw_pick] at hf
      have := szs_three (of_decide_eq_true (fand (fand (fand hf).1).1).1)
      have h1 := lasts_sz (tl (arg 1 r))
      have h2 := szs_tl (arg 1 r)
      have h3 := dflt_sz (arg 2 r)
      show (arg 0 r).sz + Dd.szs (_ ++ _) < _
      rw [szs_app]
      omega
    · rw [pw_prim]; have := drop_sz r; omega
    · rw [pw_note]; rw [fw_note] at hf
      have := szs_two (of_decide_eq_true (fand hf).1)
      show (arg 1 r).sz + 0 < _
      omega
  · rw [parts_out hp]
    show 0 < _
    omega
theorem isT_stab : ∀ (n m : Nat) (k : Dd), k.sz ≤ n → k.sz ≤ m → isT n k = isT m k
  | 0, _, k, h, _ => by have := sz_pos k; omega
  | _ + 1, 0, k, _, h => by have := sz_pos k; omega
  | n + 1, m + 1, k, h1, h2 => by
    show (formB k && (partsD k).all (isT n)) = (formB k && (partsD k).all (isT m))
    cases hf : formB k with
    | false => rfl
    | true =>
      rw [Bool.true_and, Bool.true_and]
      have hp := parts_sz hf
      have e : ∀ p ∈ partsD k, isT n p = isT m p := fun p hp' => by
        have := szs_mem hp'
        exact isT_stab n m p (by omega) (by omega)
      rw [Bool.eq_iff_iff, List.all_eq_true, List.all_eq_true]
      exact ⟨fun h p hp => by rw [← e p hp]; exact h p hp, fun h p hp => by rw [e p hp]; exact h p hp⟩
/-- whether something is a term -/
def isTT (k : Dd) : Bool := isT k.sz k
theorem isTT_eq (k : Dd) : isTT k = (formB k && (partsD k).all isTT) := by
  have h1 : isTT k = isT (k.sz + 1) k := isT_stab _ _ k (Nat.le_refl _) (Nat.le_succ _)
  rw [h1]
  show (formB k && (partsD k).all (isT k.sz)) = _
  cases hf : formB k with
  | false => rfl
  | true =>
    rw [Bool.true_and, Bool.true_and]
    have hp := parts_sz hf
    have e : ∀ p ∈ partsD k, isT k.sz p = isTT p := fun p hp' => by
      have := szs_mem hp'
      exact isT_stab _ _ p (by omega) (Nat.le_refl _)
    rw [Bool.eq_iff_iff, List.all_eq_true, List.all_eq_true]
    exact ⟨fun h p hp => by rw [← e p hp]; exact h p hp, fun h p hp => by rw [e p hp]; exact h p hp⟩
abbrev sIsTerm : Stmt := topS 44
theorem scIsTerm : FnScope ["thing", "todo", "part"] ["thing"] (defScope sIsTerm) := ⟨rfl, rfl, rfl, by decide +kernel, rfl, by decide +kernel, by decide +kernel⟩
theorem c_isTerm {f : Addr} {fd : FuncData} (chas_form : C8.Cal P w K mg base 5 "has_form" (spB formB fun k => k.sz ≤ 1000000) []) (cparts_of : C8.Cal P w K mg base 3 "parts_of" spParts []) (F : Fun K "is_term" "is_term" sIsTerm f fd) (b : Binds K fd ["thing"] []) (hm : mg "is_term" = some (.ref f)) : C8.Cal P w K mg base 6 "is_term" (spB isTT fun k => k.sz ≤ 1000000) [] := by
  refine cal_of F hm b scIsTerm (fun vs H Q E h => ?_) (fun cdv A outer s H vs Q E hr h => ?_)
  · obtain ⟨B, v, k, rfl, _⟩ := h
    rfl
  obtain ⟨B0, v, k, rfl, hat0, hsz, q⟩ := h
  have hat := hat0.here
  refine ⟨_, (pss_cons (ps_set (i := 1) scIsTerm.nd rfl (Or.inl rfl) (pe_lst (pa_cons (pv 0) pa_nil)))
    (pss_cons (ps_while PassesOwn.never (pt_truth (pv 1) (fun _ => rfl))
      (pss_cons (ps_set (i := 2) scIsTerm.nd rfl (Or.inl rfl) (pe_bm0 PySem.F.plainAttrs_list PySem.F.slot_list_pop PySem.F.type_list_pop mt_pop (pv 1)))
    (pss_cons (ps_if (pt_not (pt_val (C8.pe_c chas_form hr (by decide) rfl (pa_cons (pv 2) pa_nil))))
      (pss_one (ps_ret pe_bl))
      pss_nil)
    (pss_one (ps_expr (pe_bm PySem.F.plainAttrs_list PySem.F.slot_list_extend PySem.F.type_list_extend mt_extendT (pv 1) (pa_cons (C8.pe_c cparts_of hr (by decide) rfl (pa_cons (pv 2) pa_nil)) pa_nil)))))))
    (pss_one (ps_ret pe_bl)))), ?_⟩
  refine ⟨_, rfl, by show 1 ≤ sizeLine; decide, fun td htd => ?_⟩
  have s1 := same_new htd (.lst [v])
  have ntd : ¬ Ex H td := fun z => z htd
  refine ⟨fun n' σ G => ∃ (v2 : Option V) (ks : List Dd) (xs : List V), n' = Dd.szs ks ∧ σ = [some v, some (.ref td), v2] ∧ Same H G ∧ G td = some (.lst xs) ∧ Dd.Ats (Ex H) G ks xs ∧ Dd.szs ks ≤ 1000000 ∧ isTT k = ks.all isTT, ⟨_, none, [k], [v], rfl, rfl, s1, upd_same, ats_one (hat.keep (fr_same s1)), (by show k.sz + 0 ≤ _; omega), (by simp)⟩, ?_⟩
  rintro n' σ G ⟨v2, ks, xs, rfl, rfl, sG, hG, hats, hbd, hall⟩
  have hl := ats_len hats
  have hlz := szs_len ks
  refine ⟨_, rfl, _, .inl ⟨_, SqL.of hG, rfl⟩, ?_⟩
  rcases List.eq_nil_or_concat ks with rfl | ⟨ks', t, rfl⟩
  · cases (show xs = [] from hats)
    refine iteF ?_
    have q' := q G sG
    rw [hall] at q'
    exact q'
  · rw [List.concat_eq_append] at *
    obtain ⟨xs', x, rfl, hats', hx⟩ := ats_snoc hats
    have ne : (!(xs' ++ [x]).isEmpty) = true := by cases xs' <;> rfl
    rw [ne]
    refine iteT ?_
    have esz : Dd.szs (ks' ++ [t]) = Dd.szs ks' + t.sz := by rw [szs_app]; show _ + (t.sz + 0) = _; omega
    refine ⟨fun σ' G' => ∃ (v2 : Option V) (ks : List Dd) (xs : List V), Dd.szs ks < Dd.szs (ks' ++ [t]) ∧ σ' = [some v, some (.ref td), v2] ∧ Same H G' ∧ G' td = some (.lst xs) ∧ Dd.Ats (Ex H) G' ks xs ∧ Dd.szs ks ≤ 1000000 ∧ isTT k = ks.all isTT, fun σ' G' ⟨v2, ks, xs, lt, rest⟩ => ⟨_, lt, v2, ks, xs, rfl, rest⟩, ?_⟩
    refine ⟨_, rfl, .inl ⟨rfl, _, SqL.of hG⟩, td, _, x, rfl, rfl, hG, by simp, ?_⟩
    rw [List.dropLast_concat]
    have f4 : Fr (Ex H) G (upd G td (.lst xs')) := fr_list hG ntd
    have s4 : Same H (upd G td (.lst xs')) := same_upd htd sG _
    have h4 : upd G td (.lst xs') td = some (.lst xs') := upd_same
    replace hats' := hats'.keep f4
    replace hx := hx.keep f4
    generalize upd G td (.lst xs') = G4 at f4 s4 h4 hats' hx ⊢
    refine ⟨_, rfl, Ex H, x, t, rfl, hx, by omega, fun G5 s5 => ⟨_, rfl, ?_⟩⟩
    have ht := isTT_eq t
    rw [List.all_append, show [t].all isTT = isTT t by simp] at hall
    cases hf : formB t with
    | false =>
      refine iteT ?_
      rw [hf, Bool.false_and] at ht
      rw [ht, Bool.and_false] at hall
      have q' := q G5 (sameT s4 s5)
      rw [hall] at q'
      exact q'
    | true =>
      refine iteF ?_
      rw [hf, Bool.true_and] at ht
      have hps := parts_sz hf
      have h5 := s5 _ _ h4
      refine ⟨_, rfl, .inl ⟨rfl, _, SqL.of h5⟩, _, rfl, Ex H, x, t, rfl, hx.keep (fr_same s5), hf, by omega, fun b2 zs G6 s6 hb2 hzs => ?_⟩
      have h6 := s6 _ _ h5
      have hzl := ats_len hzs
      have hpl := szs_len (partsD t)
      have hxl := ats_len hats'
      have hkl := szs_len ks'
      refine ⟨td, b2, xs', zs, rfl, rfl, h6, SqT.of hb2, ?_, ?_⟩
      · have := big; omega
      have f7 : Fr (Ex H) G6 (upd G6 td (.lst (xs' ++ zs))) := fr_list h6 ntd
      refine ⟨_, ks' ++ partsD t, xs' ++ zs, ?_, rfl, same_upd htd (sameT s4 (sameT s5 s6)) _, upd_same, ats_app ((hats'.keep (fr_same (sameT s5 s6))).keep f7) (hzs.keep f7), ?_, ?_⟩
      · rw [szs_app]; omega
      · rw [szs_app]; omega
      · rw [hall, ht, List.all_append]
end
end Toy

set_option Elab.async false
set_option linter.all false
set_option maxRecDepth 100000
set_option maxHeartbeats 4000000
/-! Part H: good terms in plain Lean; names drawn. -/
namespace Toy
open PySem L2
open PyProof.Rows (envOfC)
/-- a row that begins with the word of a form -/
def kindTup : Dd → Bool
  | .tup (.str z :: _) => decide (z ∈ words)
  | _ => false
def niceW (w : Str) (r : List Dd) : Bool := if w = "case" then !kindTup (arg 2 r) else if w = "pick" then !kindTup (arg 2 r) else true
def niceB : Dd → Bool
  | .tup (.str w :: r) => niceW w r
  | _ => true
/-- a term, not deeper than this, whose names are no words of forms -/
def isN : Nat → Dd → Bool
  | 0, _ => false
  | n + 1, k => formB k && niceB k && (partsD k).all (isN n)
theorem isN_mono : ∀ (n m : Nat) (k : Dd), n ≤ m → isN n k = true → isN m k = true
  | 0, _, _, _, h => by cases h
  | n + 1, 0, _, h, _ => by omega
  | n + 1, m + 1, k, hl, h => by
    obtain ⟨h1, h2⟩ := fand h
    show (formB k && niceB k && (partsD k).all (isN m)) = true
    rw [h1, Bool.true_and, List.all_eq_true]
    exact fun p hp => isN_mono n m p (by omega) (List.all_eq_true.mp h2 p hp)
theorem isN_T : ∀ (n : Nat) (k : Dd), isN n k = true → isTT k = true
  | 0, _, h => by cases h
  | n + 1, k, h => by
    obtain ⟨h1, h2⟩ := fand h
    rw [isTT_eq, (fand h1).1, Bool.true_and, List.all_eq_true]
    exact fun p hp => isN_T n p (List.all_eq_true.mp h2 p hp)
def names : List Str := ["a", "b", "cc", "f", "main", "d'", "e_1", "g"]
theorem names_ok : ∀ z ∈ names, isName (.str z) = true ∧ z ∉ words ∧ z.length ≤ 1000 := by decide +kernel
theorem signs_ok : ∀ z ∈ signs, z.length ≤ 1000 := by decide +kernel
theorem words_ok : ∀ z ∈ words, z.length ≤ 1000 := by decide +kernel
theorem ddK_nodup : ∀ (acc ks : List Key), (acc ++ ks).Nodup → ddK acc ks = acc ++ ks
  | acc, [], _ => by rw [List.append_nil]; rfl
  | acc, k :: ks, h => by
    have hk : (acc.any fun j => decide (j = k)) = false := by
      rw [Bool.eq_false_iff]
      intro z
      obtain ⟨j, hj, e⟩ := List.any_eq_true.mp z
      have e := of_decide_eq_true e
      subst e
      rw [List.nodup_append] at h
      exact h.2.2 j hj j (List.mem_cons_self ..) rfl
    show ddK (if (acc.any fun j => decide (j = k)) = true then acc else acc ++ [k]) ks = _
    rw [hk, if_neg (by decide)]
    have e : acc ++ k :: ks = (acc ++ [k]) ++ ks := by rw [List.append_assoc]; rfl
    rw [e] at h ⊢
    exact ddK_nodup _ ks h
theorem dist_nodup {ks : List Key} (h : ks.Nodup) : distK ks = true := by
  unfold distK
  rw [ddK_nodup [] ks h]
  exact decide_eq_true rfl
/-- names, all different, in a tuple -/
def nameT (zs : List Str) : Dd := .tup (zs.map Dd.str)
theorem areNames_ok {zs : List Str} (h1 : ∀ z ∈ zs, z ∈ names) (h2 : zs.Nodup) : areNames (nameT zs) = true := by
  show ((zs.map Dd.str).all isName && distK ((zs.map Dd.str).map keyD)) = true
  rw [Bool.and_eq_true]
  refine ⟨?_, dist_nodup ?_⟩
  · rw [List.all_map, List.all_eq_true]
    exact fun z hz => (names_ok z (h1 z hz)).1
  · rw [List.map_map]
    exact List.Pairwise.map _ (fun a b h e => h (Sum.inr.inj e)) h2
theorem szs_strs : ∀ zs : List Str, Dd.szs (zs.map Dd.str) = zs.length
  | [] => rfl
  | z :: zs => by
    show 1 + Dd.szs (zs.map Dd.str) = zs.length + 1
    rw [szs_strs zs]
    omega
/-- a good term of this depth -/
structure Gt (d : Nat) (k : Dd) : Prop where
  ok : isN (d + 1) k = true
  sz : k.sz + 5 ≤ 8 * 4 ^ d
theorem pow_pos4 (d : Nat) : 1 ≤ 4 ^ d := by
  have := Nat.pow_le_pow_left (show 1 ≤ 4 by decide) d
  rwa [Nat.one_pow] at this
theorem Gt.mono {d e : Nat} {k : Dd} (h : Gt d k) (l : d ≤ e) : Gt e k := ⟨isN_mono _ _ k (by omega) h.ok, Nat.le_trans h.sz (Nat.mul_le_mul_left 8 (Nat.pow_le_pow_right (by decide) l))⟩
theorem isN_mk {n : Nat} {w : Str} {r : List Dd} (h1 : formW w r = true) (h2 : niceW w r = true) (h3 : ∀ p ∈ partsW w r, isN n p = true) : isN (n + 1) (.tup (.str w :: r)) = true := by
  show (formW w r && niceW w r && (partsW w r).all (isN n)) = true
  rw [h1, h2, Bool.true_and, Bool.true_and, List.all_eq_true]
  exact h3
theorem nice_other {w : Str} {r : List Dd} (h1 : w ≠ "case") (h2 : w ≠ "pick") : niceW w r = true := by
  unfold niceW
  rw [if_neg h1, if_neg h2]
theorem nw : ("num" : Str) ≠ "case" ∧ ("num" : Str) ≠ "pick" ∧ ("var" : Str) ≠ "case" ∧ ("var" : Str) ≠ "pick" ∧ ("app" : Str) ≠ "case" ∧ ("app" : Str) ≠ "pick" ∧ ("lam" : Str) ≠ "case" ∧ ("lam" : Str) ≠ "pick" ∧ ("let" : Str) ≠ "case" ∧ ("let" : Str) ≠ "pick" ∧ ("seq" : Str) ≠ "case" ∧ ("seq" : Str) ≠ "pick" ∧ ("con" : Str) ≠ "case" ∧ ("con" : Str) ≠ "pick" ∧ ("prim" : Str) ≠ "case" ∧ ("prim" : Str) ≠ "pick" ∧ ("note" : Str) ≠ "case" ∧ ("note" : Str) ≠ "pick" := by decide +kernel
theorem pw_num (r : List Dd) : partsW "num" r = [] := parts_out (by decide +kernel) r
theorem pw_var (r : List Dd) : partsW "var" r = [] := parts_out (by decide +kernel) r
theorem gt_num {d : Nat} {i : Int} (h0 : -1000000000000000 ≤ i) (h1 : i ≤ 1000000000000000) : Gt d (.tup [.str "num", .int i]) := by
  have hp := pow_pos4 d
  refine ⟨isN_mk ?_ (nice_other nw.1 nw.2.1) (fun p hp => by rw [pw_num] at hp; cases hp), by show 1 + (1 + (1 + 0)) + 5 ≤ _; omega⟩
  rw [fw_num]
  show (decide (1 = 1) && (decide (-1000000000000000 ≤ i) && decide (i ≤ 1000000000000000))) = true
  rw [decide_eq_true h0, decide_eq_true h1]
  rfl
theorem gt_var {d : Nat} {z : Str} (h : z ∈ names) : Gt d (.tup [.str "var", .str z]) := by
  have hp := pow_pos4 d
  refine ⟨isN_mk ?_ (nice_other nw.2.2.1 nw.2.2.2.1) (fun p hp => by rw [pw_var] at hp; cases hp), by show 1 + (1 + (1 + 0)) + 5 ≤ _; omega⟩
  rw [fw_var]
  show (decide (1 = 1) && isName (.str z)) = true
  rw [(names_ok z h).1]
  rfl
theorem p4 (d : Nat) : 8 * 4 ^ (d + 1) = 4 * (8 * 4 ^ d) := by rw [Nat.pow_succ]; omega
theorem mem2 {p a b : Dd} (h : p ∈ [a, b]) : p = a ∨ p = b := by simpa using h
theorem gt_app {d : Nat} {a b : Dd} (ha : Gt d a) (hb : Gt d b) : Gt (d + 1) (.tup [.str "app", a, b]) := by
  have h1 := ha.sz
  have h2 := hb.sz
  refine ⟨isN_mk (by rw [fw_app]; rfl) (nice_other nw.2.2.2.2.1 nw.2.2.2.2.2.1) (fun p hp => ?_), by rw [p4]; show 1 + (1 + (a.sz + (b.sz + 0))) + 5 ≤ _; omega⟩
  rw [pw_app] at hp
  rcases mem2 hp with e | e <;> rw [e]
  · exact ha.ok
  · exact hb.ok
theorem gt_lam {d : Nat} {z : Str} {b : Dd} (hz : z ∈ names) (hb : Gt d b) : Gt (d + 1) (.tup [.str "lam", .str z, b]) := by
  have h2 := hb.sz
  refine ⟨isN_mk ?_ (nice_other nw.2.2.2.2.2.2.1 nw.2.2.2.2.2.2.2.1) (fun p hp => ?_), by rw [p4]; show 1 + (1 + (1 + (b.sz + 0))) + 5 ≤ _; omega⟩
  · rw [fw_lam]
    show (decide (2 = 2) && isName (.str z)) = true
    rw [(names_ok z hz).1]
    rfl
  · rw [pw_lam] at hp
    rw [List.mem_singleton.mp hp]
    exact hb.ok
theorem gt_seq {d : Nat} {z : Str} {a b : Dd} (hz : z ∈ names) (ha : Gt d a) (hb : Gt d b) : Gt (d + 1) (.tup [.str "seq", .str z, a, b]) := by
  have h1 := ha.sz
  have h2 := hb.sz
  refine ⟨isN_mk ?_ (nice_other nw.2.2.2.2.2.2.2.2.2.2.1 nw.2.2.2.2.2.2.2.2.2.2.2.1) (fun p hp => ?_), by rw [p4]; show 1 + (1 + (1 + (a.sz + (b.sz + 0)))) + 5 ≤ _; omega⟩
  · rw [fw_seq]
    show (decide (3 = 3) && isName (.str z)) = true
    rw [(names_ok z hz).1]
    rfl
  · rw [pw_seq] at hp
    rcases mem2 hp with e | e <;> rw [e]
    · exact ha.ok
    · exact hb.ok
theorem gt_prim {d : Nat} {z : Str} {a b : Dd} (hz : z ∈ signs) (ha : Gt d a) (hb : Gt d b) : Gt (d + 1) (.tup [.str "prim", .str z, a, b]) := by
  have h1 := ha.sz
  have h2 := hb.sz
  refine ⟨isN_mk ?_ (nice_other nw.2.2.2.2.2.2.2.2.2.2.2.2.2.2.1 nw.2.2.2.2.2.2.2.2.2.2.2.2.2.2.2.1) (fun p hp => ?_), by rw [p4]; show 1 + (1 + (1 + (a.sz + (b.sz + 0)))) + 5 ≤ _; omega⟩
  · rw [fw_prim]
    show (decide (3 = 3) && decide (z ∈ signs)) = true
    rw [decide_eq_true hz]
    rfl
  · rw [pw_prim] at hp
    rcases mem2 hp with e | e <;> rw [e]
    · exact ha.ok
    · exact hb.ok
theorem gt_note {d : Nat} {i : Int} {b : Dd} (h0 : 0 ≤ i) (h1 : i ≤ 1000000000000) (hb : Gt d b) : Gt (d + 1) (.tup [.str "note", .int i, b]) := by
  have h2 := hb.sz
  refine ⟨isN_mk ?_ (nice_other nw.2.2.2.2.2.2.2.2.2.2.2.2.2.2.2.2.1 nw.2.2.2.2.2.2.2.2.2.2.2.2.2.2.2.2.2) (fun p hp => ?_), by rw [p4]; show 1 + (1 + (1 + (b.sz + 0))) + 5 ≤ _; omega⟩
  · rw [fw_note]
    show (decide (2 = 2) && (decide (0 ≤ i) && decide (i ≤ 1000000000000))) = true
    rw [decide_eq_true h0, decide_eq_true h1]
    rfl
  · rw [pw_note] at hp
    rw [List.mem_singleton.mp hp]
    exact hb.ok
theorem szs_gt {d : Nat} : ∀ {l : List Dd}, (∀ k ∈ l, Gt d k) → Dd.szs l ≤ l.length * (8 * 4 ^ d - 5)
  | [], _ => Nat.zero_le _
  | k :: l, h => by
    have h1 := (h k (List.mem_cons_self ..)).sz
    have h2 := szs_gt fun q hq => h q (List.mem_cons_of_mem _ hq)
    show k.sz + Dd.szs l ≤ (l.length + 1) * (8 * 4 ^ d - 5)
    rw [Nat.succ_mul]
    omega
theorem gt_con {d : Nat} {i : Int} {l : List Dd} (h0 : 0 ≤ i) (h1 : i ≤ 1000) (hl : l.length ≤ 3) (h : ∀ k ∈ l, Gt d k) : Gt (d + 1) (.tup [.str "con", .int i, .tup l]) := by
  have h2 := szs_gt h
  have hp := pow_pos4 d
  have h3 : l.length * (8 * 4 ^ d - 5) ≤ 3 * (8 * 4 ^ d - 5) := Nat.mul_le_mul_right _ hl
  refine ⟨isN_mk ?_ (nice_other nw.2.2.2.2.2.2.2.2.2.2.2.2.1 nw.2.2.2.2.2.2.2.2.2.2.2.2.2.1) (fun p hp => ?_), by rw [p4]; show 1 + (1 + (1 + (1 + Dd.szs l + 0))) + 5 ≤ _; omega⟩
  · rw [fw_con]
    show (decide (2 = 2) && ((decide (0 ≤ i) && decide (i ≤ 1000)) && true)) = true
    rw [decide_eq_true h0, decide_eq_true h1]
    rfl
  · rw [pw_con] at hp
    exact (h p hp).ok
/-- pairs of names and terms -/
def rowsL (zs : List Str) (l : List Dd) : List Dd := List.zipWith (fun z k => .tup [.str z, k]) zs l
theorem rowsL_names : ∀ {zs : List Str} {l : List Dd}, zs.length = l.length → (rowsL zs l).map (nth 0) = zs.map Dd.str
  | [], [], _ => rfl
  | z :: zs, k :: l, h => by
    show Dd.str z :: (rowsL zs l).map (nth 0) = Dd.str z :: zs.map Dd.str
    rw [rowsL_names (Nat.succ.inj h)]
  | [], _ :: _, h => by cases h
  | _ :: _, [], h => by cases h
theorem rowsL_terms : ∀ {zs : List Str} {l : List Dd}, zs.length = l.length → (rowsL zs l).map (nth 1) = l
  | [], [], _ => rfl
  | z :: zs, k :: l, h => by
    show k :: (rowsL zs l).map (nth 1) = k :: l
    rw [rowsL_terms (Nat.succ.inj h)]
  | [], _ :: _, h => by cases h
  | _ :: _, [], h => by cases h
theorem rowsL_two : ∀ {zs : List Str} {l : List Dd}, (rowsL zs l).all (isRow 2) = true
  | [], _ => by cases ‹List Dd› <;> rfl
  | _ :: _, [] => rfl
  | z :: zs, k :: l => by
    show (true && (rowsL zs l).all (isRow 2)) = true
    rw [rowsL_two]
    rfl
theorem rowsL_len : ∀ {zs : List Str} {l : List Dd}, zs.length = l.length → (rowsL zs l).length = l.length := by
  intro zs l h
  unfold rowsL
  rw [List.length_zipWith, h, Nat.min_self]
theorem rowsL_sz : ∀ {zs : List Str} {l : List Dd}, zs.length = l.length → Dd.szs (rowsL zs l) = Dd.szs l + 2 * l.length
  | [], [], _ => rfl
  | z :: zs, k :: l, h => by
    show (1 + (1 + (k.sz + 0))) + Dd.szs (rowsL zs l) = k.sz + Dd.szs l + 2 * (l.length + 1)
    rw [rowsL_sz (Nat.succ.inj h)]
    omega
  | [], _ :: _, h => by cases h
  | _ :: _, [], h => by cases h
theorem gt_let {d : Nat} {zs : List Str} {l : List Dd} {b : Dd} (hz : ∀ z ∈ zs, z ∈ names) (hn : zs.Nodup) (hlen : zs.length = l.length) (h0 : 0 < l.length) (h3 : l.length ≤ 3) (h : ∀ k ∈ l, Gt d k) (hb : Gt d b) : Gt (d + 1) (.tup [.str "let", .tup (rowsL zs l), b]) := by
  have h1 := hb.sz
  have h2 := szs_gt h
  have hp := pow_pos4 d
  have h4 : l.length * (8 * 4 ^ d - 5) ≤ 3 * (8 * 4 ^ d - 5) := Nat.mul_le_mul_right _ h3
  refine ⟨isN_mk ?_ (nice_other nw.2.2.2.2.2.2.2.2.1 nw.2.2.2.2.2.2.2.2.2.1) (fun p hp => ?_), by rw [p4]; show 1 + (1 + (1 + Dd.szs (rowsL zs l) + (b.sz + 0))) + 5 ≤ _; rw [rowsL_sz hlen]; omega⟩
  · rw [fw_let]
    show (decide (2 = 2) && (rowsL zs l).all (isRow 2) && (decide (0 < (rowsL zs l).length) && areNames (.tup ((rowsL zs l).map (nth 0))))) = true
    rw [rowsL_two, rowsL_names hlen, rowsL_len hlen, decide_eq_true h0, show areNames (.tup (zs.map Dd.str)) = true from areNames_ok hz hn]
    rfl
  · rw [pw_let] at hp
    have hp : p ∈ (rowsL zs l).map (nth 1) ++ [b] := hp
    rw [rowsL_terms hlen] at hp
    rcases List.mem_append.mp hp with e | e
    · exact (h p e).ok
    · rw [List.mem_singleton.mp e]; exact hb.ok
/-- a default: none, or a name and a term -/
def dfl : Option (Str × Dd) → Dd
  | none => .non
  | some q => .tup [.str q.1, q.2]
theorem dfl_ok {o : Option (Str × Dd)} (h : ∀ q, o = some q → q.1 ∈ names) : isDflt (dfl o) = true ∧ kindTup (dfl o) = false := by
  cases o with
  | none => exact ⟨rfl, rfl⟩
  | some q =>
    obtain ⟨h1, h2, _⟩ := names_ok q.1 (h q rfl)
    exact ⟨by show (true && isName (.str q.1)) = true; rw [h1]; rfl, decide_eq_false h2⟩
/-- rows of a case: tag, names, term -/
def rowsC (l : List (Int × List Str × Dd)) : List Dd := l.map fun q => .tup [.int q.1, nameT q.2.1, q.2.2]
/-- rows of a pick: number, term -/
def rowsP (l : List (Int × Dd)) : List Dd := l.map fun q => .tup [.int q.1, q.2]
theorem szs_C {d : Nat} : ∀ {l : List (Int × List Str × Dd)}, (∀ q ∈ l, q.2.1.length ≤ 2 ∧ Gt d q.2.2) → Dd.szs (rowsC l) ≤ l.length * (8 * 4 ^ d)
  | [], _ => Nat.zero_le _
  | q :: l, h => by
    obtain ⟨h1, h2⟩ := h q (List.mem_cons_self ..)
    have h2 := h2.sz
    have h3 := szs_C fun q hq => h q (List.mem_cons_of_mem _ hq)
    have h4 := szs_strs q.2.1
    show (1 + (1 + ((1 + Dd.szs (q.2.1.map Dd.str)) + (q.2.2.sz + 0)))) + Dd.szs (rowsC l) ≤ (l.length + 1) * (8 * 4 ^ d)
    rw [Nat.succ_mul]
    omega
theorem szs_P {d : Nat} : ∀ {l : List (Int × Dd)}, (∀ q ∈ l, Gt d q.2) → Dd.szs (rowsP l) ≤ l.length * (8 * 4 ^ d)
  | [], _ => Nat.zero_le _
  | q :: l, h => by
    have h2 := (h q (List.mem_cons_self ..)).sz
    have h3 := szs_P fun q hq => h q (List.mem_cons_of_mem _ hq)
    show (1 + (1 + (q.2.sz + 0))) + Dd.szs (rowsP l) ≤ (l.length + 1) * (8 * 4 ^ d)
    rw [Nat.succ_mul]
    omega
theorem dfl_sz {d : Nat} {o : Option (Str × Dd)} (h : ∀ q, o = some q → Gt d q.2) : (dfl o).sz + 3 ≤ 8 * 4 ^ d := by
  have hp := pow_pos4 d
  cases o with
  | none => show 1 + 3 ≤ _; omega
  | some q =>
    have := (h q rfl).sz
    show 1 + (1 + (q.2.sz + 0)) + 3 ≤ _
    omega
theorem choice_parts {d : Nat} {f : Dd} {rows : List Dd} {o : Option (Str × Dd)} (hf : Gt d f) (hr : ∀ q ∈ rows, Gt d (lastD q)) (ho : ∀ q, o = some q → Gt d q.2) : ∀ p ∈ gChoice [f, .tup rows, dfl o], isN (d + 1) p = true := fun p hp => by
  have hp : p ∈ f :: (rows.map lastD ++ dfltP (dfl o)) := hp
  rcases List.mem_cons.mp hp with e | e
  · rw [e]; exact hf.ok
  · rcases List.mem_append.mp e with e | e
    · obtain ⟨q, hq, rfl⟩ := List.mem_map.mp e
      exact (hr q hq).ok
    · cases o with
      | none => cases e
      | some q =>
        have e : p ∈ [q.2] := e
        rw [List.mem_singleton.mp e]
        exact (ho q rfl).ok
theorem gt_case {d : Nat} {f : Dd} {l : List (Int × List Str × Dd)} {o : Option (Str × Dd)} (hf : Gt d f) (hl : l.length ≤ 2) (h : ∀ q ∈ l, 0 ≤ q.1 ∧ q.1 ≤ 1000 ∧ (∀ z ∈ q.2.1, z ∈ names) ∧ q.2.1.Nodup ∧ q.2.1.length ≤ 2 ∧ Gt d q.2.2) (ho : ∀ q, o = some q → q.1 ∈ names ∧ Gt d q.2) :
    Gt (d + 1) (.tup [.str "case", f, .tup (rowsC l), dfl o]) := by
  have h1 := hf.sz
  have h2 := szs_C (d := d) (l := l) fun q hq => ⟨(h q hq).2.2.2.2.1, (h q hq).2.2.2.2.2⟩
  have h3 := dfl_sz (d := d) (o := o) fun q hq => (ho q hq).2
  have h4 : l.length * (8 * 4 ^ d) ≤ 2 * (8 * 4 ^ d) := Nat.mul_le_mul_right _ hl
  obtain ⟨k1, k2⟩ := dfl_ok (o := o) fun q hq => (ho q hq).1
  refine ⟨isN_mk ?_ ?_ ?_, by rw [p4]; show 1 + (1 + (f.sz + (1 + Dd.szs (rowsC l) + ((dfl o).sz + 0)))) + 5 ≤ _; omega⟩
  · rw [fw_case]
    show (decide (3 = 3) && (rowsC l).all (isRow 3) && isDflt (dfl o) && (rowsC l).all fun q => numIn 0 1000 (nth 0 q) && areNames (nth 1 q)) = true
    rw [k1, show (rowsC l).all (isRow 3) = true by unfold rowsC; rw [List.all_map, List.all_eq_true]; exact fun q _ => rfl,
      show ((rowsC l).all fun q => numIn 0 1000 (nth 0 q) && areNames (nth 1 q)) = true by
        unfold rowsC
        rw [List.all_map, List.all_eq_true]
        intro q hq
        obtain ⟨g1, g2, g3, g4, g5, g6⟩ := h q hq
        show ((decide (0 ≤ q.1) && decide (q.1 ≤ 1000)) && areNames (nameT q.2.1)) = true
        rw [decide_eq_true g1, decide_eq_true g2, areNames_ok g3 g4]
        rfl]
    rfl
  · unfold niceW
    rw [if_pos rfl]
    show (!kindTup (dfl o)) = true
    rw [k2]
    rfl
  · rw [show partsW "case" [f, .tup (rowsC l), dfl o] = _ from pw_case _]
    refine choice_parts hf (fun q hq => ?_) fun q hq => (ho q hq).2
    unfold rowsC at hq
    obtain ⟨x, hx, rfl⟩ := List.mem_map.mp hq
    exact (h x hx).2.2.2.2.2
theorem gt_pick {d : Nat} {f : Dd} {l : List (Int × Dd)} {o : Option (Str × Dd)} (hf : Gt d f) (hl : l.length ≤ 2) (h : ∀ q ∈ l, -10 ≤ q.1 ∧ q.1 ≤ 10 ∧ Gt d q.2) (hn : (l.map (·.1)).Nodup) (ho : ∀ q, o = some q → q.1 ∈ names ∧ Gt d q.2) :
    Gt (d + 1) (.tup [.str "pick", f, .tup (rowsP l), dfl o]) := by
  have h1 := hf.sz
  have h2 := szs_P (d := d) (l := l) fun q hq => (h q hq).2.2
  have h3 := dfl_sz (d := d) (o := o) fun q hq => (ho q hq).2
  have h4 : l.length * (8 * 4 ^ d) ≤ 2 * (8 * 4 ^ d) := Nat.mul_le_mul_right _ hl
  obtain ⟨k1, k2⟩ := dfl_ok (o := o) fun q hq => (ho q hq).1
  have e1 : ((rowsP l).map (nth 0)) = l.map fun q => Dd.int q.1 := by unfold rowsP; rw [List.map_map]; rfl
  refine ⟨isN_mk ?_ ?_ ?_, by rw [p4]; show 1 + (1 + (f.sz + (1 + Dd.szs (rowsP l) + ((dfl o).sz + 0)))) + 5 ≤ _; omega⟩
  · rw [fw_pick]
    show (decide (3 = 3) && (rowsP l).all (isRow 2) && isDflt (dfl o) && (((rowsP l).map (nth 0)).all cNum && distK (((rowsP l).map (nth 0)).map keyD))) = true
    rw [k1, e1, show (rowsP l).all (isRow 2) = true by unfold rowsP; rw [List.all_map, List.all_eq_true]; exact fun q _ => rfl,
      show ((l.map fun q => Dd.int q.1).all cNum) = true by
        rw [List.all_map, List.all_eq_true]
        intro q hq
        obtain ⟨g1, g2, g3⟩ := h q hq
        show (decide (-1000000000000000 ≤ q.1) && decide (q.1 ≤ 1000000000000000)) = true
        rw [decide_eq_true (by omega), decide_eq_true (by omega)]
        rfl,
      dist_nodup (by rw [List.map_map]; exact (List.pairwise_map.mpr ((List.pairwise_map.mp hn).imp fun hab e => hab (Sum.inl.inj e))))]
    rfl
  · unfold niceW
    rw [if_neg (by decide +kernel), if_pos rfl]
    show (!kindTup (dfl o)) = true
    rw [k2]
    rfl
  · rw [show partsW "pick" [f, .tup (rowsP l), dfl o] = _ from pw_pick _]
    refine choice_parts hf (fun q hq => ?_) fun q hq => (ho q hq).2
    unfold rowsP at hq
    obtain ⟨x, hx, rfl⟩ := List.mem_map.mp hq
    exact (h x hx).2.2
end Toy

set_option Elab.async false
set_option linter.all false
set_option maxRecDepth 100000
set_option maxHeartbeats 4000000
/-! Part I: names drawn. -/
namespace Toy
open PySem L2
open PyProof.Rows (envOfC)
theorem at_str {zs : List Str} {i : Int} (h0 : 0 ≤ i) (h1 : i < (zs.length : Int)) : ∃ z ∈ zs, atI (zs.map V.str) i = some (.str z) := by
  have hk : i.toNat < zs.length := by omega
  refine ⟨zs[i.toNat], List.getElem_mem _, ?_⟩
  have q : atI (zs.map V.str) ((i.toNat : Nat) : Int) = some (.str zs[i.toNat]) := atI_nat (by rw [List.getElem?_map, List.getElem?_eq_getElem hk] <;> rfl)
  rw [show ((i.toNat : Nat) : Int) = i by omega] at q
  exact q
theorem flat_strs : ∀ l : List Str, (l.map V.str).all flatV = true
  | [] => rfl
  | n :: l => by
    rw [List.map_cons, List.all_cons, flat_strs l]
    rfl
theorem cal_none {P : Program} {w : World} {K : PySem.W.Frag} {mg : Str → Option Value} {base : Heap} {x : Str} {st : Stmt} {f : Addr} {fd : FuncData} {ps : List Str} {k : Nat} {sp : Sp} (F : Fun K x x st f fd) (hm : mg x = some (.ref f)) (b : Binds K fd ps []) (no : ∀ vs H Q E, ¬ sp vs H Q E) : C8.Cal P w K mg base k x sp [] :=
  ⟨f, fd, ps, [], ⟨fun vs H Q E h => (no _ _ _ _ h).elim, fun A outer s H args us vs Q E hr e0 hb r hsp => (no _ _ _ _ hsp).elim⟩, hm, F.kp, b, .nil⟩
/-- no lists -/
def F0 : Addr → Prop := fun _ => False
structure TxtG (mg : Str → Option Value) : Prop where
  zrange : mg "range" = none
  ztuple : mg "tuple" = none
section
variable {P : Program} {w : World} {K : PySem.W.Frag} {mg : Str → Option Value} {base : Heap}
abbrev sLName : Stmt := topS 50
theorem scLName : FnScope ["d"] ["d"] (defScope sLName) := ⟨rfl, rfl, rfl, by decide +kernel, rfl, by decide +kernel, by decide +kernel⟩
def spLName : Sp := fun vs H Q _ => ∃ (p r : Addr) (B : Nat), vs = [.ref p] ∧ DAt H p r B ∧ ∀ (z : Str) (H' : Hp), z ∈ names → Keep p H H' → DAt H' p r (B + 1) → Q (.str z) H'
theorem c_lname {f : Addr} {fd : FuncData} (c_law_take : C8.Cal P w K mg base 1 "_law_take" spTake []) (F : Fun K "_law_name" "_law_name" sLName f fd) (b : Binds K fd ["d"] []) (hm : mg "_law_name" = some (.ref f)) : C8.Cal P w K mg base 2 "_law_name" spLName [] := by
  refine cal_of F hm b scLName (fun vs H Q E h => ?_) (fun cdv A outer s H vs Q E hr h => ?_)
  · obtain ⟨p, r, B, rfl, _⟩ := h
    rfl
  obtain ⟨p, r, B, rfl, d0, q⟩ := h
  refine ⟨_, (pss_one (ps_ret (pe_ix ix_list (pe_lst (pa_strs (zs := ["a", "b", "cc", "f", "main", "d'", "e_1", "g"]) rfl)) (pe_op op_mod (C8.pe_c c_law_take hr (by decide) rfl (pa_cons (pv 0) pa_nil)) pe_int) (fun _ _ => rfl)))), ?_⟩
  refine ⟨by show 8 ≤ sizeLine; decide, fun lz hlz => ?_⟩
  have s1 := same_new hlz (.lst (names.map V.str))
  have e1 : upd H lz (.lst (names.map V.str)) lz = some (.lst (names.map V.str)) := upd_same
  have d1 := d0.same s1
  refine ⟨_, rfl, p, r, B, rfl, d1, fun n H2 n0 n1 k2 d2 => ?_⟩
  obtain ⟨z, hz, ez⟩ := at_str (zs := names) (i := n % 8) (Int.emod_nonneg _ (by decide)) (by show n % 8 < 8; exact Int.emod_lt_of_pos _ (by decide))
  refine ⟨_, _, rfl, rfl, (show (0 : Int) < 8 by decide), lz, _, _, _, rfl, rfl, SqL.of (k2 _ _ (d1.ne_list e1) e1), ez, ?_⟩
  exact q z H2 hz ((Keep.same s1).trans k2) d2
abbrev sLNames : Stmt := topS 51
theorem scLNames : FnScope ["d", "many", "names", "k", "name"] ["d", "many"] (defScope sLNames) := ⟨rfl, rfl, rfl, by decide +kernel, rfl, by decide +kernel, by decide +kernel⟩
def spLNames : Sp := fun vs H Q _ => ∃ (p r : Addr) (B m : Nat), vs = [.ref p, .int (m : Int)] ∧ m ≤ 3 ∧ DAt H p r B ∧ ∀ (t : Addr) (zs : List Str) (H' : Hp), Keep p H H' → DAt H' p r (B + m) → H' t = some (.tup (zs.map V.str)) → (∀ z ∈ zs, z ∈ names) → zs.Nodup → zs.length ≤ m → (0 < m → 0 < zs.length) → Q (.ref t) H'
theorem c_lnames {f : Addr} {fd : FuncData} (T : TxtG mg) (c_law_name : C8.Cal P w K mg base 2 "_law_name" spLName []) (F : Fun K "_law_names" "_law_names" sLNames f fd) (b : Binds K fd ["d", "many"] []) (hm : mg "_law_names" = some (.ref f)) : C8.Cal P w K mg base 3 "_law_names" spLNames [] := by
  refine cal_of F hm b scLNames (fun vs H Q E h => ?_) (fun cdv A outer s H vs Q E hr h => ?_)
  · obtain ⟨p, r, B, m, rfl, _⟩ := h
    rfl
  obtain ⟨p, r, B, m, rfl, hm3, d0, q⟩ := h
  refine ⟨_, (pss_cons (ps_set (i := 2) scLNames.nd rfl (Or.inl rfl) (pe_lst pa_nil))
    (pss_cons (ps_for PassesOwn.never rfl (pi_range1 rfl T.zrange (pa_cons (pv 1) pa_nil)) (pg_name (i := 3) scLNames.nd rfl (Or.inl rfl))
      (pss_cons (ps_set (i := 4) scLNames.nd rfl (Or.inl rfl) (C8.pe_c c_law_name hr (by decide) rfl (pa_cons (pv 0) pa_nil)))
    (pss_one (ps_if (pt_cmpR op_notIn_seq (pv 4) (pv 2) rfl)
      (pss_one (ps_expr (pe_bm PySem.F.plainAttrs_list PySem.F.slot_list_append PySem.F.type_list_append mt_append (pv 2) (pa_cons (pv 4) pa_nil))))
      pss_nil))))
    (pss_one (ps_ret (pe_callTy call_tuple_of rfl T.ztuple boot_tuple (pa_cons (pv 2) pa_nil)))))), ?_⟩
  refine ⟨by show 0 ≤ sizeLine; decide, fun L hL => ?_⟩
  obtain ⟨nLp, nLr⟩ := d0.fresh hL
  have s1 := same_new hL (.lst [])
  refine ⟨_, rfl, _, rfl, by omega, by omega, for_range
    (fun (i : Nat) σ G => ∃ (v3 v4 : Option V) (zs : List Str), σ = [some (.ref p), some (.int (m : Int)), some (.ref L), v3, v4] ∧ Keep p H G ∧ DAt G p r (B + i) ∧ G L = some (.lst (zs.map V.str)) ∧ (∀ z ∈ zs, z ∈ names) ∧ zs.Nodup ∧ zs.length ≤ i ∧ (0 < i → 0 < zs.length))
    ⟨_, _, [], rfl, Keep.same s1, d0.same s1, upd_same, (fun z h => by cases h), List.nodup_nil, Nat.zero_le _, fun h => h⟩ ?_ ?_⟩
  · rintro i σ G hi ⟨v3, v4, zs, rfl, kG, dG, hG, hin, hnd, hlen, hpos⟩
    have hi3 : i < 3 := by omega
    refine ⟨_, rfl, p, r, B + i, rfl, dG, fun z G2 hz k2 d2 => ?_⟩
    have hG2 := k2 _ _ nLp hG
    refine ⟨_, rfl, _, rfl, L, _, rfl, .inl (SqL.of hG2), rfl, flat_strs _, ?_⟩
    rw [show (if true = true then !inV (.str z) (zs.map V.str) else inV (.str z) (zs.map V.str)) = !decide (z ∈ zs) by rw [if_pos rfl, inV_strs]]
    refine ⟨_, rfl, ?_⟩
    by_cases c : z ∈ zs
    · rw [decide_eq_true c]
      refine iteF ?_
      exact ⟨_, _, zs, rfl, kG.trans k2, d2, hG2, hin, hnd, by omega, fun _ => List.length_pos_of_mem c⟩
    · rw [decide_eq_false c]
      refine iteT ?_
      refine ⟨_, rfl, .inl ⟨rfl, _, SqL.of hG2⟩, _, rfl, L, _, _, rfl, rfl, hG2, szl (by rw [List.length_map]; omega), ?_⟩
      refine ⟨_, _, zs ++ [z], rfl, keep_upd hL (kG.trans k2) _, d2.off nLp nLr _, by rw [upd_same, List.map_append]; rfl, fun y hy => ?_, ?_, by rw [List.length_append]; show _ + 1 ≤ _; omega, fun _ => by rw [List.length_append]; show 0 < _ + 1; omega⟩
      · rcases List.mem_append.mp hy with e | e
        · exact hin y e
        · rw [List.mem_singleton.mp e]; exact hz
      · rw [List.nodup_append]
        exact ⟨hnd, List.pairwise_singleton .., fun a ha b hb e => by rw [List.mem_singleton.mp hb] at e; rw [e] at ha; exact c ha⟩
  rintro σ G ⟨v3, v4, zs, rfl, kG, dG, hG, hin, hnd, hlen, hpos⟩
  rw [show ((m : Int)).toNat = m from Int.toNat_natCast m] at dG hlen hpos
  refine ⟨_, rfl, L, _, rfl, .inl ⟨SqL.of hG, fun t ht => ?_⟩⟩
  have s2 := same_new ht (.tup (zs.map V.str))
  exact q t zs _ (kG.trans (Keep.same s2)) (dG.same s2) upd_same hin hnd hlen hpos
end
end Toy

set_option Elab.async false
set_option linter.all false
set_option maxRecDepth 100000
set_option maxHeartbeats 4000000
/-! Part J: terms drawn: cases and picks. -/
namespace Toy
open PySem L2
open PyProof.Rows (envOfC)
theorem F0.to {B : Addr → Prop} {H : Hp} {k : Dd} {v : V} (h : k.At F0 H v) : k.At B H v := h.weak fun _ _ _ z => z.elim
theorem ed (e : Nat) (x : V) : [x, V.int (((e + 1 : Nat) : Int) - 1)] = [x, V.int (e : Int)] := by rw [show ((e + 1 : Nat) : Int) - 1 = (e : Int) by omega]
theorem c8 (e : Nat) : 8 ≤ 8 * 4 ^ e := by have := pow_pos4 e; omega
section
variable {P : Program} {w : World} {K : PySem.W.Frag} {mg : Str → Option Value} {base : Heap}
/-- a good term, and how many draws it took -/
def spAny (n : Nat) : Sp := fun vs H Q _ => ∃ (p r : Addr) (B e : Nat), vs = [.ref p, .int (e : Int)] ∧ e < n ∧ DAt H p r B ∧ B + 8 * 4 ^ e ≤ 1000000000 ∧ ∀ (v : V) (k : Dd) (H' : Hp), Keep p H H' → DAt H' p r (B + (8 * 4 ^ e - 5)) → k.At F0 H' v → Gt e k → Q v H'
def spBranch (n : Nat) : Sp := fun vs H Q _ => ∃ (p r : Addr) (B e : Nat), vs = [.ref p, .int ((e + 1 : Nat) : Int)] ∧ e < n ∧ DAt H p r B ∧ B + 8 * 4 ^ (e + 1) ≤ 1000000001 ∧ ∀ (v : V) (k : Dd) (H' : Hp), Keep p H H' → DAt H' p r (B + (8 * 4 ^ (e + 1) - 6)) → k.At F0 H' v → Gt (e + 1) k → Q v H'
theorem at_tup {B : Addr → Prop} {H : Hp} {a : Addr} {xs : List V} {l : List Dd} (h : H a = some (.tup xs)) (hs : Dd.Ats B H l xs) : Dd.At B H (.tup l) (.ref a) := ⟨a, xs, rfl, h, hs⟩
theorem ats_cons {B : Addr → Prop} {H : Hp} {x : V} {xs : List V} {k : Dd} {l : List Dd} (h : k.At B H x) (hs : Dd.Ats B H l xs) : Dd.Ats B H (k :: l) (x :: xs) := ⟨x, xs, rfl, h, hs⟩
theorem at_int' {B : Addr → Prop} {H : Hp} {i : Int} : Dd.At B H (.int i) (.int i) := rfl
theorem at_str' {B : Addr → Prop} {H : Hp} {z : Str} (h : z.length ≤ 1000) : Dd.At B H (.str z) (.str z) := ⟨rfl, h⟩
theorem ats_nil {B : Addr → Prop} {H : Hp} : Dd.Ats B H [] [] := rfl
theorem ats_names {B : Addr → Prop} {H : Hp} : ∀ {zs : List Str}, (∀ z ∈ zs, z ∈ names) → Dd.Ats B H (zs.map Dd.str) (zs.map V.str)
  | [], _ => rfl
  | z :: zs, h => ⟨.str z, zs.map V.str, rfl, ⟨rfl, (names_ok z (h z (List.mem_cons_self ..))).2.2⟩, ats_names fun y hy => h y (List.mem_cons_of_mem _ hy)⟩
/-- the rows of a case, or of a pick, so far -/
def GoodR (kd : Str) (e i : Nat) (rows : List Dd) : Prop :=
  (kd = "case" → ∃ l : List (Int × List Str × Dd), rows = rowsC l ∧ l.length ≤ i ∧ ∀ q ∈ l, 0 ≤ q.1 ∧ q.1 ≤ 1000 ∧ (∀ z ∈ q.2.1, z ∈ names) ∧ q.2.1.Nodup ∧ q.2.1.length ≤ 2 ∧ Gt e q.2.2) ∧
  (kd ≠ "case" → ∃ l : List (Int × Dd), rows = rowsP l ∧ l.length ≤ i ∧ (∀ q ∈ l, -10 ≤ q.1 ∧ q.1 ≤ 3 * (i : Int) - 3 ∧ Gt e q.2) ∧ (l.map (·.1)).Nodup)
abbrev sBranch : Stmt := topS 52
theorem scBranch : FnScope ["d", "depth", "name", "kind", "found", "k", "body", "default"] ["d", "depth"] (defScope sBranch) := ⟨rfl, rfl, rfl, by decide +kernel, rfl, by decide +kernel, by decide +kernel⟩
theorem c_branch {f : Addr} {fd : FuncData} (T : TxtG mg) (c_law_take : C8.Cal P w K mg base 1 "_law_take" spTake []) (c_law_name : C8.Cal P w K mg base 2 "_law_name" spLName []) (c_law_names : C8.Cal P w K mg base 3 "_law_names" spLNames []) {n : Nat} (c_law_any : C8.Cal P w K mg base (2 * n + 4) "_law_any" (spAny n) []) (F : Fun K "_law_any_branch" "_law_any_branch" sBranch f fd) (b : Binds K fd ["d", "depth"] []) (hm : mg "_law_any_branch" = some (.ref f)) : C8.Cal P w K mg base (2 * n + 5) "_law_any_branch" (spBranch n) [] := by
  refine cal_of F hm b scBranch (fun vs H Q E h => ?_) (fun cdv A outer s H vs Q E hr h => ?_)
  · obtain ⟨p, r, B, e, rfl, _⟩ := h
    rfl
  obtain ⟨p, r, B, e, rfl, hen, d0, hB, q⟩ := h
  rw [p4] at hB q
  have hc8 := c8 e
  refine ⟨_, (pss_cons (ps_set (i := 2) scBranch.nd rfl (Or.inl rfl) (C8.pe_c c_law_name hr (by omega) rfl (pa_cons (pv 0) pa_nil)))
    (pss_cons (ps_set (i := 3) scBranch.nd rfl (Or.inl rfl) (pe_ix ix_list (pe_lst (pa_cons pe_str (pa_cons pe_str pa_nil))) (pe_op op_mod (C8.pe_c c_law_take hr (by omega) rfl (pa_cons (pv 0) pa_nil)) pe_int) (fun _ _ => rfl)))
    (pss_cons (ps_set (i := 4) scBranch.nd rfl (Or.inl rfl) (pe_lst pa_nil))
    (pss_cons (ps_for PassesOwn.never rfl (pi_range1 rfl T.zrange (pa_cons (pe_op op_mod (C8.pe_c c_law_take hr (by omega) rfl (pa_cons (pv 0) pa_nil)) pe_int) pa_nil)) (pg_name (i := 5) scBranch.nd rfl (Or.inl rfl))
      (pss_cons (ps_set (i := 6) scBranch.nd rfl (Or.inl rfl) (C8.pe_c c_law_any hr (by omega) rfl (pa_cons (pv 0) (pa_cons (pe_op op_sub (pv 1) pe_int) pa_nil))))
    (pss_one (ps_if (pt_cmpR op_eq (pv 3) pe_str (nomark _))
      (pss_one (ps_expr (pe_bm PySem.F.plainAttrs_list PySem.F.slot_list_append PySem.F.type_list_append mt_append (pv 4) (pa_cons (pe_tup (pa_cons (pe_op op_mod (C8.pe_c c_law_take hr (by omega) rfl (pa_cons (pv 0) pa_nil)) pe_int) (pa_cons (C8.pe_c c_law_names hr (by omega) rfl (pa_cons (pv 0) (pa_cons (pe_op op_mod (C8.pe_c c_law_take hr (by omega) rfl (pa_cons (pv 0) pa_nil)) pe_int) pa_nil))) (pa_cons (pv 6) pa_nil)))) pa_nil))))
      (pss_one (ps_expr (pe_bm PySem.F.plainAttrs_list PySem.F.slot_list_append PySem.F.type_list_append mt_append (pv 4) (pa_cons (pe_tup (pa_cons (pe_op op_sub (pe_op op_mul pe_int (pv 5)) (pe_op op_mod (C8.pe_c c_law_take hr (by omega) rfl (pa_cons (pv 0) pa_nil)) pe_int)) (pa_cons (pv 6) pa_nil))) pa_nil))))))))
    (pss_cons (ps_set (i := 7) scBranch.nd rfl (Or.inl rfl) pe_non)
    (pss_cons (ps_if (pt_cmpR op_eq (pe_op op_mod (C8.pe_c c_law_take hr (by omega) rfl (pa_cons (pv 0) pa_nil)) pe_int) pe_int (nomark _))
      (pss_one (ps_set (i := 7) scBranch.nd rfl (Or.inl rfl) (pe_tup (pa_cons (pv 2) (pa_cons (C8.pe_c c_law_any hr (by omega) rfl (pa_cons (pv 0) (pa_cons (pe_op op_sub (pv 1) pe_int) pa_nil))) pa_nil)))))
      pss_nil)
    (pss_one (ps_ret (pe_tup (pa_cons (pv 3) (pa_cons (C8.pe_c c_law_any hr (by omega) rfl (pa_cons (pv 0) (pa_cons (pe_op op_sub (pv 1) pe_int) pa_nil))) (pa_cons (pe_callTy call_tuple_of rfl T.ztuple boot_tuple (pa_cons (pv 4) pa_nil)) (pa_cons (pv 7) pa_nil))))))))))))), ?_⟩
  refine ⟨_, rfl, p, r, B, rfl, d0, fun nm H1 hnm k1 d1 => ?_⟩
  refine ⟨by show 2 ≤ sizeLine; decide, fun lz hlz => ?_⟩
  have s2 := same_new hlz (.lst [.str "case", .str "pick"])
  have e2 : upd H1 lz (.lst [.str "case", .str "pick"]) lz = some (.lst ([("case" : Str), "pick"].map V.str)) := upd_same
  have d2 := d1.same s2
  have k2 := k1.trans (Keep.same s2)
  generalize upd H1 lz (.lst [.str "case", .str "pick"]) = H2 at s2 e2 d2 k2 ⊢
  refine ⟨_, rfl, p, r, _, rfl, d2, fun n3 H3 n30 n31 k3 d3 => ?_⟩
  obtain ⟨kd, hkd, ekd⟩ := at_str (zs := ["case", "pick"]) (i := n3 % 2) (Int.emod_nonneg _ (by decide)) (by show n3 % 2 < 2; exact Int.emod_lt_of_pos _ (by decide))
  refine ⟨_, _, rfl, rfl, (show (0 : Int) < 2 by decide), lz, _, _, _, rfl, rfl, SqL.of (k3 _ _ (d2.ne_list e2) e2), ekd, ?_⟩
  have k03 := k2.trans k3
  clear k2 k1 s2
  refine ⟨by show 0 ≤ sizeLine; decide, fun L hL => ?_⟩
  obtain ⟨nLp, nLr⟩ := d3.fresh hL
  have s4 := same_new hL (.lst [])
  have e4 : upd H3 L (.lst []) L = some (.lst []) := upd_same
  have d4 := d3.same s4
  have k04 := k03.trans (Keep.same s4)
  have hLH : H L = none := k03.free nLp hL
  generalize upd H3 L (.lst []) = H4 at s4 e4 d4 k04 ⊢
  refine ⟨_, rfl, p, r, _, rfl, d4, fun n5 H5 n50 n51 k5 d5 => ?_⟩
  have e5 := k5 _ _ nLp e4
  have k05 := k04.trans k5
  have m50 := Int.emod_nonneg n5 (show (3 : Int) ≠ 0 by decide)
  have m51 := Int.emod_lt_of_pos n5 (show (0 : Int) < 3 by decide)
  refine ⟨_, _, rfl, rfl, (show (0 : Int) < 3 by decide), ?_⟩
  have hm2 : (n5 % 3).toNat ≤ 2 := by omega
  refine ⟨n5 % 3, rfl, by omega, by omega, for_range
    (fun (i : Nat) σ G => ∃ (v5 v6 v7 : Option V) (xs : List V) (rows : List Dd), σ = [some (.ref p), some (.int ((e + 1 : Nat) : Int)), some (.str nm), some (.str kd), some (.ref L), v5, v6, v7] ∧ Keep p H G ∧ DAt G p r (B + 3 + i * (8 * 4 ^ e - 1)) ∧ G L = some (.lst xs) ∧ Dd.Ats F0 G rows xs ∧ xs.length ≤ i ∧ GoodR kd e i rows)
    ⟨_, _, _, [], [], rfl, k05, d5.more (by omega), e5, rfl, Nat.le_refl _, ⟨fun _ => ⟨[], rfl, Nat.le_refl _, fun q h => by cases h⟩, fun _ => ⟨[], rfl, Nat.le_refl _, (fun q h => by cases h), List.nodup_nil⟩⟩⟩ ?_ ?_⟩
  · rintro i σ G hi ⟨v5, v6, v7, xs, rows, rfl, kG, dG, hG, aG, hlen, gr⟩
    have hi1 : i ≤ 1 := by omega
    have hic : i * (8 * 4 ^ e - 1) ≤ 1 * (8 * 4 ^ e - 1) := Nat.mul_le_mul_right _ hi1
    have hic1 : (i + 1) * (8 * 4 ^ e - 1) = i * (8 * 4 ^ e - 1) + (8 * 4 ^ e - 1) := Nat.succ_mul _ _
    refine ⟨_, rfl, _, rfl, _, _, rfl, rfl, p, r, _, e, ed _ _, hen, dG, by omega, fun v k G2 k2 d2 a2 g2 => ?_⟩
    have hG2 := k2 _ _ nLp hG
    have aG2 := Dd.Ats.keep (fr_keep k2 dG) aG
    refine ⟨_, rfl, rfl, _, rfl, ?_⟩
    show if decide (V.str kd = V.str "case") = true then _ else _
    by_cases c : kd = "case"
    · rw [show decide (V.str kd = V.str "case") = true by rw [c]; exact decide_eq_true rfl]
      refine iteT ?_
      refine ⟨_, rfl, .inl ⟨rfl, _, SqL.of hG2⟩, ?_⟩
      refine ⟨_, rfl, p, r, _, rfl, d2, fun n6 G6 n60 n61 k6 d6 => ?_⟩
      have m60 := Int.emod_nonneg n6 (show (3 : Int) ≠ 0 by decide)
      have m61 := Int.emod_lt_of_pos n6 (show (0 : Int) < 3 by decide)
      refine ⟨_, _, rfl, rfl, (show (0 : Int) < 3 by decide), _, rfl, _, rfl, p, r, _, rfl, d6, fun n7 G7 n70 n71 k7 d7 => ?_⟩
      have m70 := Int.emod_nonneg n7 (show (3 : Int) ≠ 0 by decide)
      have m71 := Int.emod_lt_of_pos n7 (show (0 : Int) < 3 by decide)
      refine ⟨_, _, rfl, rfl, (show (0 : Int) < 3 by decide), p, r, _, (n7 % 3).toNat, by rw [Int.toNat_of_nonneg m70]; rfl, by omega, d7, fun t zs G8 k8 d8 et hz hnd hzl _ => ?_⟩
      refine ⟨_, rfl, by show 3 ≤ sizeLine; decide, fun t2 ht2 => ?_⟩
      have kGL := (k6.trans k7).trans k8
      have hG8 := kGL _ _ nLp hG2
      have aG8 := Dd.Ats.keep (fr_keep kGL d2) aG2
      have a8 := Dd.At.keep (fr_keep kGL d2) a2
      have s9 := same_new ht2 (.tup [.int (n6 % 3), .ref t, v])
      have e9 : upd G8 t2 (.tup [.int (n6 % 3), .ref t, v]) t2 = some (.tup [.int (n6 % 3), .ref t, v]) := upd_same
      have d9 := d8.same s9
      have hG9 := s9 _ _ hG8
      have aG9 := Dd.Ats.keep (fr_same s9) aG8
      have a9 := Dd.At.keep (fr_same s9) a8
      have et9 := s9 _ _ et
      have k9 := (((kG.trans k2).trans kGL).trans (Keep.same s9))
      generalize upd G8 t2 (.tup [.int (n6 % 3), .ref t, v]) = G9 at s9 e9 d9 hG9 aG9 a9 et9 k9 ⊢
      refine ⟨L, _, _, rfl, rfl, hG9, szl (by omega), ?_⟩
      have fL : Fr F0 G9 (upd G9 L (.lst (xs ++ [.ref t2]))) := fr_list hG9 fun z => z
      refine ⟨_, _, _, xs ++ [.ref t2], rows ++ [.tup [.int (n6 % 3), nameT zs, k]], rfl, keep_upd hLH k9 _, (d9.off nLp nLr _).more (by omega), upd_same, ats_app (Dd.Ats.keep fL aG9) (ats_one (Dd.At.keep fL (at_tup e9 (ats_cons at_int' (ats_cons (at_tup et9 (ats_names hz)) (ats_cons a9 ats_nil)))))), by rw [List.length_append]; show _ + 1 ≤ _; omega, fun c2 => ?_, fun c2 => (c2 c).elim⟩
      obtain ⟨l, rfl, hl, hq⟩ := gr.1 c
      refine ⟨l ++ [(n6 % 3, zs, k)], by unfold rowsC; rw [List.map_append]; rfl, by rw [List.length_append]; show _ + 1 ≤ _; omega, fun y hy => ?_⟩
      rcases List.mem_append.mp hy with z | z
      · exact hq y z
      · rw [List.mem_singleton.mp z]
        exact ⟨m60, by show n6 % 3 ≤ 1000; omega, hz, hnd, by show zs.length ≤ 2; omega, g2⟩
    · rw [show decide (V.str kd = V.str "case") = false from decide_eq_false fun z => c (by injection z)]
      refine iteF ?_
      refine ⟨_, rfl, .inl ⟨rfl, _, SqL.of hG2⟩, ?_⟩
      refine ⟨_, rfl, _, _, rfl, rfl, by show CMul 3 (0 + (i : Int)); unfold CMul; omega, ?_⟩
      refine ⟨_, rfl, p, r, _, rfl, d2, fun n6 G8 n60 n61 k6 d6 => ?_⟩
      have m60 := Int.emod_nonneg n6 (show (3 : Int) ≠ 0 by decide)
      have m61 := Int.emod_lt_of_pos n6 (show (0 : Int) < 3 by decide)
      refine ⟨_, _, rfl, rfl, (show (0 : Int) < 3 by decide), _, _, rfl, rfl, _, rfl, by show 2 ≤ sizeLine; decide, fun t2 ht2 => ?_⟩
      have hG8 := k6 _ _ nLp hG2
      have aG8 := Dd.Ats.keep (fr_keep k6 d2) aG2
      have a8 := Dd.At.keep (fr_keep k6 d2) a2
      have s9 := same_new ht2 (.tup [.int (3 * (0 + (i : Int)) - n6 % 3), v])
      have e9 : upd G8 t2 (.tup [.int (3 * (0 + (i : Int)) - n6 % 3), v]) t2 = some (.tup [.int (3 * (0 + (i : Int)) - n6 % 3), v]) := upd_same
      have d9 := d6.same s9
      have hG9 := s9 _ _ hG8
      have aG9 := Dd.Ats.keep (fr_same s9) aG8
      have a9 := Dd.At.keep (fr_same s9) a8
      have k9 := (((kG.trans k2).trans k6).trans (Keep.same s9))
      generalize upd G8 t2 (.tup [.int (3 * (0 + (i : Int)) - n6 % 3), v]) = G9 at s9 e9 d9 hG9 aG9 a9 k9 ⊢
      refine ⟨L, _, _, rfl, rfl, hG9, szl (by omega), ?_⟩
      have fL : Fr F0 G9 (upd G9 L (.lst (xs ++ [.ref t2]))) := fr_list hG9 fun z => z
      refine ⟨_, _, _, xs ++ [.ref t2], rows ++ [.tup [.int (3 * (0 + (i : Int)) - n6 % 3), k]], rfl, keep_upd hLH k9 _, (d9.off nLp nLr _).more (by omega), upd_same, ats_app (Dd.Ats.keep fL aG9) (ats_one (Dd.At.keep fL (at_tup e9 (ats_cons at_int' (ats_cons a9 ats_nil))))), by rw [List.length_append]; show _ + 1 ≤ _; omega, fun c2 => (c c2).elim, fun _ => ?_⟩
      obtain ⟨l, rfl, hl, hq, hnd⟩ := gr.2 c
      refine ⟨l ++ [(3 * (0 + (i : Int)) - n6 % 3, k)], by unfold rowsP; rw [List.map_append]; rfl, by rw [List.length_append]; show _ + 1 ≤ _; omega, fun y hy => ?_, ?_⟩
      · rcases List.mem_append.mp hy with z | z
        · obtain ⟨z1, z2, z3⟩ := hq y z
          exact ⟨z1, by omega, z3⟩
        · rw [List.mem_singleton.mp z]
          exact ⟨by show -10 ≤ 3 * (0 + (i : Int)) - n6 % 3; omega, by show 3 * (0 + (i : Int)) - n6 % 3 ≤ _; omega, g2⟩
      · rw [List.map_append, List.nodup_append]
        refine ⟨hnd, List.pairwise_singleton .., fun x hx y hy e => ?_⟩
        obtain ⟨q1, hq1, rfl⟩ := List.mem_map.mp hx
        have hy : y ∈ [3 * (0 + (i : Int)) - n6 % 3] := hy
        rw [List.mem_singleton.mp hy] at e
        have := (hq q1 hq1).2.1
        omega
  rintro σ G ⟨v5, v6, v7, xs, rows, rfl, kG, dG, hG, aG, hlen, gr⟩
  generalize (n5 % 3).toNat = m at *
  have hmc : m * (8 * 4 ^ e - 1) ≤ 2 * (8 * 4 ^ e - 1) := Nat.mul_le_mul_right _ hm2
  have dG := dG.more (show _ ≤ B + (2 * (8 * 4 ^ e) + 1) by omega)
  refine ⟨_, rfl, p, r, _, rfl, dG, fun n8 G8 n80 n81 k8 d8 => ?_⟩
  have hG8 := k8 _ _ nLp hG
  have aG8 := Dd.Ats.keep (fr_keep k8 dG) aG
  refine ⟨_, _, rfl, rfl, (show (0 : Int) < 2 by decide), ?_⟩
  refine ⟨rfl, _, rfl, ?_⟩
  have hkl : kd.length ≤ 1000 := by
    rcases List.mem_cons.mp hkd with z | z
    · rw [z]; decide +kernel
    · rw [List.mem_singleton.mp z]; decide +kernel
  have fin : ∀ (o : Option (Str × Dd)) (kk : Dd), Gt e kk → (∀ q, o = some q → q.1 ∈ names ∧ Gt e q.2) → Gt (e + 1) (.tup [.str kd, kk, .tup rows, dfl o]) := fun o kk hk ho => by
    by_cases c : kd = "case"
    · obtain ⟨l, rfl, hl, hq⟩ := gr.1 c
      rw [c]
      exact gt_case hk (by omega) hq ho
    · obtain ⟨l, rfl, hl, hq, hnd⟩ := gr.2 c
      rw [show kd = "pick" by
        rcases List.mem_cons.mp hkd with z | z
        · exact (c z).elim
        · exact List.mem_singleton.mp z]
      exact gt_pick hk (by omega) (fun y hy => ⟨(hq y hy).1, by have := (hq y hy).2.1; omega, (hq y hy).2.2⟩) hnd ho
  show if decide (V.int (n8 % 2) = V.int 0) = true then _ else _
  rcases Bool.eq_false_or_eq_true (decide (V.int (n8 % 2) = V.int 0)) with c | c
  · rw [c]
    refine iteT ?_
    refine ⟨_, rfl, _, rfl, _, rfl, _, _, rfl, rfl, p, r, _, e, ed _ _, hen, d8, by omega, fun v0 k0 G9' k9' d9' a9' g9 => ⟨by show 2 ≤ sizeLine; decide, fun t0 ht0 => ?_⟩⟩
    have hG9' := k9' _ _ nLp hG8
    have aG9' := Dd.Ats.keep (fr_keep k9' d8) aG8
    have s9 := same_new ht0 (.tup [.str nm, v0])
    have e9 : upd G9' t0 (.tup [.str nm, v0]) t0 = some (.tup [.str nm, v0]) := upd_same
    have d9 := d9'.same s9
    have hG9 := s9 _ _ hG9'
    have fr9 := fr_same (B := F0) s9
    have aG9 := Dd.Ats.keep fr9 aG9'
    have k9 := ((kG.trans k8).trans k9').trans (Keep.same s9)
    have ad : Dd.At F0 (upd G9' t0 (.tup [.str nm, v0])) (dfl (some (nm, k0))) (.ref t0) := at_tup e9 (ats_cons (at_str' (names_ok nm hnm).2.2) (ats_cons (a9'.keep fr9) ats_nil))
    generalize upd G9' t0 (.tup [.str nm, v0]) = G9 at *
    have ho : ∀ q, some (nm, k0) = some q → q.1 ∈ names ∧ Gt e q.2 := fun q e => by
      cases e
      exact ⟨hnm, g9⟩
    refine ⟨_, rfl, _, rfl, _, rfl, _, _, rfl, rfl, p, r, _, e, ed _ _, hen, d9, by omega, fun v1 kk G10 k10 d10 a10 g10 => ?_⟩
    have hG10 := k10 _ _ nLp hG9
    have aG10 := Dd.Ats.keep (fr_keep k10 d9) aG9
    have ad10 := Dd.At.keep (fr_keep k10 d9) ad
    refine ⟨_, rfl, L, _, rfl, .inl ⟨SqL.of hG10, fun t ht => ?_⟩⟩
    refine ⟨_, rfl, by show 4 ≤ sizeLine; decide, fun t3 ht3 => ?_⟩
    have s11 := same_new ht (.tup xs)
    have e11 : upd G10 t (.tup xs) t = some (.tup xs) := upd_same
    have k11 := (k9.trans k10).trans (Keep.same s11)
    have d11 := d10.same s11
    have aG11 := Dd.Ats.keep (fr_same s11) aG10
    have a11 := Dd.At.keep (fr_same s11) a10
    have ad11 := Dd.At.keep (fr_same s11) ad10
    generalize upd G10 t (.tup xs) = G11 at *
    have s12 := same_new ht3 (.tup [.str kd, v1, .ref t, .ref t0])
    have fr12 := fr_same (B := F0) s12
    refine q _ (.tup [.str kd, kk, .tup rows, dfl (some (nm, k0))]) _ (k11.trans (Keep.same s12)) ((d11.same s12).more (by omega)) (at_tup upd_same (ats_cons (at_str' hkl) (ats_cons (a11.keep fr12) (ats_cons (at_tup (s12 _ _ e11) (Dd.Ats.keep fr12 aG11)) (ats_cons (ad11.keep fr12) ats_nil))))) (fin _ _ g10 ho)
  · rw [c]
    refine iteF ?_
    have d9 := d8
    have hG9 := hG8
    have aG9 := aG8
    have k9 := kG.trans k8
    have ad : Dd.At F0 G8 (dfl none) .non := rfl
    have ho : ∀ q : Str × Dd, none = some q → q.1 ∈ names ∧ Gt e q.2 := fun q e => by cases e
    refine ⟨_, rfl, _, rfl, _, rfl, _, _, rfl, rfl, p, r, _, e, ed _ _, hen, d9, by omega, fun v1 kk G10 k10 d10 a10 g10 => ?_⟩
    have hG10 := k10 _ _ nLp hG9
    have aG10 := Dd.Ats.keep (fr_keep k10 d9) aG9
    have ad10 := Dd.At.keep (fr_keep k10 d9) ad
    refine ⟨_, rfl, L, _, rfl, .inl ⟨SqL.of hG10, fun t ht => ?_⟩⟩
    refine ⟨_, rfl, by show 4 ≤ sizeLine; decide, fun t3 ht3 => ?_⟩
    have s11 := same_new ht (.tup xs)
    have e11 : upd G10 t (.tup xs) t = some (.tup xs) := upd_same
    have k11 := (k9.trans k10).trans (Keep.same s11)
    have d11 := d10.same s11
    have aG11 := Dd.Ats.keep (fr_same s11) aG10
    have a11 := Dd.At.keep (fr_same s11) a10
    have ad11 := Dd.At.keep (fr_same s11) ad10
    generalize upd G10 t (.tup xs) = G11 at *
    have s12 := same_new ht3 (.tup [.str kd, v1, .ref t, .non])
    have fr12 := fr_same (B := F0) s12
    refine q _ (.tup [.str kd, kk, .tup rows, dfl none]) _ (k11.trans (Keep.same s12)) ((d11.same s12).more (by omega)) (at_tup upd_same (ats_cons (at_str' hkl) (ats_cons (a11.keep fr12) (ats_cons (at_tup (s12 _ _ e11) (Dd.Ats.keep fr12 aG11)) (ats_cons (ad11.keep fr12) ats_nil))))) (fin _ _ g10 ho)
end
end Toy

set_option Elab.async false
set_option linter.all false
set_option maxRecDepth 100000
set_option maxHeartbeats 8000000
/-! Part K: terms drawn. -/
namespace Toy
open PySem L2
open PyProof.Rows (envOfC)
theorem at_intN {ns : List Int} {i : Int} (h0 : 0 ≤ i) (h1 : i < (ns.length : Int)) : ∃ v ∈ ns, atI (ns.map V.int) i = some (.int v) := by
  have hk : i.toNat < ns.length := by omega
  refine ⟨ns[i.toNat], List.getElem_mem _, ?_⟩
  have q : atI (ns.map V.int) ((i.toNat : Nat) : Int) = some (.int ns[i.toNat]) := atI_nat (by rw [List.getElem?_map, List.getElem?_eq_getElem hk] <;> rfl)
  rw [show ((i.toNat : Nat) : Int) = i by omega] at q
  exact q
def menu : List Int := [0, 1, 2, -1, 10 ^ (15 : Int).toNat, -10 ^ (15 : Int).toNat, 7]
theorem menu_ok : ∀ z ∈ menu, -1000000000000000 ≤ z ∧ z ≤ 1000000000000000 := by decide +kernel
section
variable {P : Program} {w : World} {K : PySem.W.Frag} {mg : Str → Option Value} {base : Heap}
abbrev sAny : Stmt := topS 53
theorem scAny : FnScope ["d", "depth", "turn", "names", "terms", "many", "sign", "name", "k"] ["d", "depth"] (defScope sAny) := ⟨rfl, rfl, rfl, by decide +kernel, rfl, by decide +kernel, by decide +kernel⟩
theorem c_any1 {f : Addr} {fd : FuncData} (T : TxtG mg) (c_law_take : C8.Cal P w K mg base 1 "_law_take" spTake []) (c_law_name : C8.Cal P w K mg base 2 "_law_name" spLName []) (c_law_names : C8.Cal P w K mg base 3 "_law_names" spLNames []) {n : Nat} (c_law_any : C8.Cal P w K mg base (2 * n + 4) "_law_any" (spAny n) []) (c_law_any_branch : C8.Cal P w K mg base (2 * n + 5) "_law_any_branch" (spBranch n) []) (F : Fun K "_law_any" "_law_any" sAny f fd) (b : Binds K fd ["d", "depth"] []) (hm : mg "_law_any" = some (.ref f)) : C8.Cal P w K mg base (2 * (n + 1) + 4) "_law_any" (spAny (n + 1)) [] := by
  refine cal_of F hm b scAny (fun vs H Q E h => ?_) (fun cdv A outer s H vs Q E hr h => ?_)
  · obtain ⟨p, r, B, e, rfl, _⟩ := h
    rfl
  obtain ⟨p, r, B, e, rfl, hen, d0, hB, q⟩ := h
  have hu := hu_of hr
  have hc8 := c8 e
  refine ⟨_, (pss_cons (ps_set (i := 2) scAny.nd rfl (Or.inl rfl) (pe_op op_mod (C8.pe_c c_law_take hr (by omega) rfl (pa_cons (pv 0) pa_nil)) pe_int))
    (pss_cons (ps_if (PW.pt (pw_or (pt_cmpR op_le (pv 1) pe_int (nomark _)) (pw_or (pt_cmpR op_le (pe_dget hu (pv 0) pe_str (fun _ _ => rfl)) pe_int (nomark _)) (pw_or1 (pt_cmpR op_lt (pv 2) pe_int (nomark _))))))
      (pss_cons (ps_if (pt_cmpR op_eq (pe_op op_mod (pv 2) pe_int) pe_int (nomark _))
      (pss_one (ps_ret (pe_tup (pa_cons pe_str (pa_cons (pe_ix ix_list (pe_lst (pa_cons pe_int (pa_cons pe_int (pa_cons pe_int (pa_cons (pe_un un_neg pe_int) (pa_cons (pe_op op_pow pe_int pe_int) (pa_cons (pe_un un_neg (pe_op op_pow pe_int pe_int)) (pa_cons pe_int pa_nil)))))))) (pe_op op_mod (C8.pe_c c_law_take hr (by omega) rfl (pa_cons (pv 0) pa_nil)) pe_int) (fun _ _ => rfl)) pa_nil)))))
      pss_nil)
    (pss_one (ps_ret (pe_tup (pa_cons pe_str (pa_cons (C8.pe_c c_law_name hr (by omega) rfl (pa_cons (pv 0) pa_nil)) pa_nil))))))
      pss_nil)
    (pss_cons (ps_dput hu (pv 0) pe_str (pe_op op_sub (pe_dget hu (pv 0) pe_str (fun _ _ => rfl)) pe_int) rfl)
    (pss_cons (ps_if (pt_cmpR op_lt (pv 2) pe_int (nomark _))
      (pss_one (ps_ret (pe_tup (pa_cons pe_str (pa_cons (C8.pe_c c_law_any hr (by omega) rfl (pa_cons (pv 0) (pa_cons (pe_op op_sub (pv 1) pe_int) pa_nil))) (pa_cons (C8.pe_c c_law_any hr (by omega) rfl (pa_cons (pv 0) (pa_cons (pe_op op_sub (pv 1) pe_int) pa_nil))) pa_nil))))))
      pss_nil)
    (pss_cons (ps_if (pt_cmpR op_lt (pv 2) pe_int (nomark _))
      (pss_one (ps_ret (pe_tup (pa_cons pe_str (pa_cons (C8.pe_c c_law_name hr (by omega) rfl (pa_cons (pv 0) pa_nil)) (pa_cons (C8.pe_c c_law_any hr (by omega) rfl (pa_cons (pv 0) (pa_cons (pe_op op_sub (pv 1) pe_int) pa_nil))) pa_nil))))))
      pss_nil)
    (pss_cons (ps_if (pt_cmpR op_eq (pv 2) pe_int (nomark _))
      (pss_cons (ps_set (i := 3) scAny.nd rfl (Or.inl rfl) (C8.pe_c c_law_names hr (by omega) rfl (pa_cons (pv 0) (pa_cons (pe_op op_add pe_int (pe_op op_mod (C8.pe_c c_law_take hr (by omega) rfl (pa_cons (pv 0) pa_nil)) pe_int)) pa_nil))))
    (pss_cons (ps_setLc (i := 4) (own := [("name", 7)]) (g := gName 7) (tt := tYes) rfl scAny.nd rfl rfl (sw_true rfl rfl rfl (by decide +kernel)) (pi_tup (pv 3)) (blkOk_by (own := [("name", 7)]) (N := ["d", "depth", "turn", "names", "terms", "many", "sign", "name", "k"]) (sc := defScope sAny) (by decide +kernel)) (fun _ _ _ _ _ => (pg_name (i := 7) scAny.nd rfl (Or.inl rfl))) (fun _ _ _ _ _ => pts_nil) (fun _ _ _ _ _ => (pe_tup (pa_cons (pv 7) (pa_cons (C8.pe_c c_law_any hr (by omega) rfl (pa_cons (pv 0) (pa_cons (pe_op op_sub (pv 1) pe_int) pa_nil))) pa_nil)))))
    (pss_one (ps_ret (pe_tup (pa_cons pe_str (pa_cons (pe_callTy call_tuple_of rfl T.ztuple boot_tuple (pa_cons (pv 4) pa_nil)) (pa_cons (C8.pe_c c_law_any hr (by omega) rfl (pa_cons (pv 0) (pa_cons (pe_op op_sub (pv 1) pe_int) pa_nil))) pa_nil))))))))
      pss_nil)
    (pss_cons (ps_if (pt_cmpR op_eq (pv 2) pe_int (nomark _))
      (pss_one (ps_ret (pe_tup (pa_cons pe_str (pa_cons (C8.pe_c c_law_name hr (by omega) rfl (pa_cons (pv 0) pa_nil)) (pa_cons (C8.pe_c c_law_any hr (by omega) rfl (pa_cons (pv 0) (pa_cons (pe_op op_sub (pv 1) pe_int) pa_nil))) (pa_cons (C8.pe_c c_law_any hr (by omega) rfl (pa_cons (pv 0) (pa_cons (pe_op op_sub (pv 1) pe_int) pa_nil))) pa_nil)))))))
      pss_nil)
    (pss_cons (ps_if (PW.pt (pw_or (pt_cmpR op_eq (pv 2) pe_int (nomark _)) (pw_or1 (pt_cmpR op_eq (pv 2) pe_int (nomark _)))))
      (pss_cons (ps_set (i := 5) scAny.nd rfl (Or.inl rfl) (pe_op op_mod (C8.pe_c c_law_take hr (by omega) rfl (pa_cons (pv 0) pa_nil)) pe_int))
    (pss_one (ps_ret (pe_tup (pa_cons pe_str (pa_cons (pe_op op_mod (C8.pe_c c_law_take hr (by omega) rfl (pa_cons (pv 0) pa_nil)) pe_int) (pa_cons (pe_callTy call_tuple_of rfl T.ztuple boot_tuple (pa_cons (pe_lc (own := [("k", 8)]) (g := gName 8) (tt := tYes) rfl scAny.nd (pi_range1 rfl T.zrange (pa_cons (pv 5) pa_nil)) (blkOk_by (own := [("k", 8)]) (N := ["d", "depth", "turn", "names", "terms", "many", "sign", "name", "k"]) (sc := defScope sAny) (by decide +kernel)) (fun _ _ _ _ _ => (pg_name (i := 8) scAny.nd rfl (Or.inl rfl))) (fun _ _ _ _ _ => pts_nil) (fun _ _ _ _ _ => (C8.pe_c c_law_any hr (by omega) rfl (pa_cons (pv 0) (pa_cons (pe_op op_sub (pv 1) pe_int) pa_nil))))) pa_nil)) pa_nil)))))))
      pss_nil)
    (pss_cons (ps_if (PW.pt (pw_or (pt_cmpR op_eq (pv 2) pe_int (nomark _)) (pw_or1 (pt_cmpR op_eq (pv 2) pe_int (nomark _)))))
      (pss_one (ps_ret (C8.pe_c c_law_any_branch hr (by omega) rfl (pa_cons (pv 0) (pa_cons (pv 1) pa_nil)))))
      pss_nil)
    (pss_cons (ps_if (pt_cmpR op_eq (pv 2) pe_int (nomark _))
      (pss_one (ps_ret (pe_tup (pa_cons pe_str (pa_cons (C8.pe_c c_law_take hr (by omega) rfl (pa_cons (pv 0) pa_nil)) (pa_cons (C8.pe_c c_law_any hr (by omega) rfl (pa_cons (pv 0) (pa_cons (pe_op op_sub (pv 1) pe_int) pa_nil))) pa_nil))))))
      pss_nil)
    (pss_cons (ps_set (i := 6) scAny.nd rfl (Or.inl rfl) (pe_ix ix_list (pe_lst (pa_strs (zs := ["+", "-", "*", "div", "mod", "==", "<", "<="]) rfl)) (pe_op op_mod (C8.pe_c c_law_take hr (by omega) rfl (pa_cons (pv 0) pa_nil)) pe_int) (fun _ _ => rfl)))
    (pss_one (ps_ret (pe_tup (pa_cons pe_str (pa_cons (pv 6) (pa_cons (C8.pe_c c_law_any hr (by omega) rfl (pa_cons (pv 0) (pa_cons (pe_op op_sub (pv 1) pe_int) pa_nil))) (pa_cons (C8.pe_c c_law_any hr (by omega) rfl (pa_cons (pv 0) (pa_cons (pe_op op_sub (pv 1) pe_int) pa_nil))) pa_nil)))))))))))))))))), ?_⟩
  refine ⟨_, rfl, p, r, B, rfl, d0, fun n1 H1 n10 n11 k1 d1 => ?_⟩
  have m10 := Int.emod_nonneg n1 (show (16 : Int) ≠ 0 by decide)
  have m11 := Int.emod_lt_of_pos n1 (show (0 : Int) < 16 by decide)
  refine ⟨_, _, rfl, rfl, (show (0 : Int) < 16 by decide), ?_⟩
  show gName 2 (V.int (n1 % 16)) _ _ _
  generalize hturn : n1 % 16 = u at *
  obtain ⟨row, i1, nn, left, hp1, hrow1, ok1, hi1⟩ := d1
  have d1 : DAt H1 p r (B + 1) := ⟨row, i1, nn, left, hp1, hrow1, ok1, hi1⟩
  refine ⟨_, rfl, _, _, rfl, rfl, _, rfl, ?_⟩
  show if decide ((e : Int) ≤ 0) = true then _ else _
  rcases Bool.eq_false_or_eq_true (decide ((e : Int) ≤ 0)) with c1 | c1
  · rw [c1]
    refine iteT (iteT ?_)
    refine ⟨_, rfl, _, _, rfl, rfl, (show (0 : Int) < 2 by decide), rfl, _, rfl, ?_⟩
    show if decide (V.int (u % 2) = V.int 0) = true then _ else _
    rcases Bool.eq_false_or_eq_true (decide (V.int (u % 2) = V.int 0)) with cc | cc
    · rw [cc]
      refine iteT ?_
      refine ⟨_, rfl, _, _, rfl, rfl, (by unfold CPow; decide), _, _, rfl, rfl, (by unfold CPow; decide), _, rfl, by show 7 ≤ sizeLine; decide, fun lz hlz => ?_⟩
      have s2 := same_new hlz (.lst (menu.map V.int))
      have e2 : upd H1 lz (.lst (menu.map V.int)) lz = some (.lst (menu.map V.int)) := upd_same
      have d2 := d1.same s2
      have k2 := k1.trans (Keep.same s2)
      refine ⟨_, rfl, p, r, _, rfl, d2, fun n2 H2 n20 n21 k3 d3 => ?_⟩
      obtain ⟨z, hz, ez⟩ := at_intN (ns := menu) (i := n2 % 7) (Int.emod_nonneg _ (by decide)) (by show n2 % 7 < 7; exact Int.emod_lt_of_pos _ (by decide))
      refine ⟨_, _, rfl, rfl, (show (0 : Int) < 7 by decide), lz, _, _, _, rfl, rfl, SqL.of (k3 _ _ (d2.ne_list e2) e2), ez, ?_⟩
      refine ⟨by show 2 ≤ sizeLine; decide, fun t ht => ?_⟩
      have s3 := same_new ht (.tup [.str "num", .int z])
      exact q _ (.tup [.str "num", .int z]) _ ((k2.trans k3).trans (Keep.same s3)) ((d3.same s3).more (by omega)) (at_tup upd_same (ats_cons (at_str' (by decide +kernel)) (ats_cons at_int' ats_nil))) (gt_num (menu_ok z hz).1 (menu_ok z hz).2)
    · rw [cc]
      refine iteF ?_
      refine ⟨_, rfl, p, r, _, rfl, d1, fun z H2 hz k2 d2 => ⟨by show 2 ≤ sizeLine; decide, fun t ht => ?_⟩⟩
      have s3 := same_new ht (.tup [.str "var", .str z])
      exact q _ (.tup [.str "var", .str z]) _ ((k1.trans k2).trans (Keep.same s3)) ((d2.same s3).more (by omega)) (at_tup upd_same (ats_cons (at_str' (by decide +kernel)) (ats_cons (at_str' (names_ok z hz).2.2) ats_nil))) (gt_var hz)
  rw [c1]
  refine iteF ?_
  refine ⟨_, rfl, p, _, rfl, (dk_left r _ _ _ ▸ DGet.k (k := Sum.inr "left") hp1), _, _, rfl, rfl, _, rfl, ?_⟩
  show if decide (left ≤ 0) = true then _ else _
  rcases Bool.eq_false_or_eq_true (decide (left ≤ 0)) with c2 | c2
  · rw [c2]
    refine iteT (iteT ?_)
    refine ⟨_, rfl, _, _, rfl, rfl, (show (0 : Int) < 2 by decide), rfl, _, rfl, ?_⟩
    show if decide (V.int (u % 2) = V.int 0) = true then _ else _
    rcases Bool.eq_false_or_eq_true (decide (V.int (u % 2) = V.int 0)) with cc | cc
    · rw [cc]
      refine iteT ?_
      refine ⟨_, rfl, _, _, rfl, rfl, (by unfold CPow; decide), _, _, rfl, rfl, (by unfold CPow; decide), _, rfl, by show 7 ≤ sizeLine; decide, fun lz hlz => ?_⟩
      have s2 := same_new hlz (.lst (menu.map V.int))
      have e2 : upd H1 lz (.lst (menu.map V.int)) lz = some (.lst (menu.map V.int)) := upd_same
      have d2 := d1.same s2
      have k2 := k1.trans (Keep.same s2)
      refine ⟨_, rfl, p, r, _, rfl, d2, fun n2 H2 n20 n21 k3 d3 => ?_⟩
      obtain ⟨z, hz, ez⟩ := at_intN (ns := menu) (i := n2 % 7) (Int.emod_nonneg _ (by decide)) (by show n2 % 7 < 7; exact Int.emod_lt_of_pos _ (by decide))
      refine ⟨_, _, rfl, rfl, (show (0 : Int) < 7 by decide), lz, _, _, _, rfl, rfl, SqL.of (k3 _ _ (d2.ne_list e2) e2), ez, ?_⟩
      refine ⟨by show 2 ≤ sizeLine; decide, fun t ht => ?_⟩
      have s3 := same_new ht (.tup [.str "num", .int z])
      exact q _ (.tup [.str "num", .int z]) _ ((k2.trans k3).trans (Keep.same s3)) ((d3.same s3).more (by omega)) (at_tup upd_same (ats_cons (at_str' (by decide +kernel)) (ats_cons at_int' ats_nil))) (gt_num (menu_ok z hz).1 (menu_ok z hz).2)
    · rw [cc]
      refine iteF ?_
      refine ⟨_, rfl, p, r, _, rfl, d1, fun z H2 hz k2 d2 => ⟨by show 2 ≤ sizeLine; decide, fun t ht => ?_⟩⟩
      have s3 := same_new ht (.tup [.str "var", .str z])
      exact q _ (.tup [.str "var", .str z]) _ ((k1.trans k2).trans (Keep.same s3)) ((d2.same s3).more (by omega)) (at_tup upd_same (ats_cons (at_str' (by decide +kernel)) (ats_cons (at_str' (names_ok z hz).2.2) ats_nil))) (gt_var hz)
  rw [c2]
  refine iteF ?_
  refine ⟨_, rfl, _, _, rfl, rfl, _, rfl, ?_⟩
  show if decide (u < 2) = true then _ else _
  rcases Bool.eq_false_or_eq_true (decide (u < 2)) with c3 | c3
  · rw [c3]
    refine iteT ?_
    refine ⟨_, rfl, _, _, rfl, rfl, (show (0 : Int) < 2 by decide), rfl, _, rfl, ?_⟩
    show if decide (V.int (u % 2) = V.int 0) = true then _ else _
    rcases Bool.eq_false_or_eq_true (decide (V.int (u % 2) = V.int 0)) with cc | cc
    · rw [cc]
      refine iteT ?_
      refine ⟨_, rfl, _, _, rfl, rfl, (by unfold CPow; decide), _, _, rfl, rfl, (by unfold CPow; decide), _, rfl, by show 7 ≤ sizeLine; decide, fun lz hlz => ?_⟩
      have s2 := same_new hlz (.lst (menu.map V.int))
      have e2 : upd H1 lz (.lst (menu.map V.int)) lz = some (.lst (menu.map V.int)) := upd_same
      have d2 := d1.same s2
      have k2 := k1.trans (Keep.same s2)
      refine ⟨_, rfl, p, r, _, rfl, d2, fun n2 H2 n20 n21 k3 d3 => ?_⟩
      obtain ⟨z, hz, ez⟩ := at_intN (ns := menu) (i := n2 % 7) (Int.emod_nonneg _ (by decide)) (by show n2 % 7 < 7; exact Int.emod_lt_of_pos _ (by decide))
      refine ⟨_, _, rfl, rfl, (show (0 : Int) < 7 by decide), lz, _, _, _, rfl, rfl, SqL.of (k3 _ _ (d2.ne_list e2) e2), ez, ?_⟩
      refine ⟨by show 2 ≤ sizeLine; decide, fun t ht => ?_⟩
      have s3 := same_new ht (.tup [.str "num", .int z])
      exact q _ (.tup [.str "num", .int z]) _ ((k2.trans k3).trans (Keep.same s3)) ((d3.same s3).more (by omega)) (at_tup upd_same (ats_cons (at_str' (by decide +kernel)) (ats_cons at_int' ats_nil))) (gt_num (menu_ok z hz).1 (menu_ok z hz).2)
    · rw [cc]
      refine iteF ?_
      refine ⟨_, rfl, p, r, _, rfl, d1, fun z H2 hz k2 d2 => ⟨by show 2 ≤ sizeLine; decide, fun t ht => ?_⟩⟩
      have s3 := same_new ht (.tup [.str "var", .str z])
      exact q _ (.tup [.str "var", .str z]) _ ((k1.trans k2).trans (Keep.same s3)) ((d2.same s3).more (by omega)) (at_tup upd_same (ats_cons (at_str' (by decide +kernel)) (ats_cons (at_str' (names_ok z hz).2.2) ats_nil))) (gt_var hz)
  rw [c3]
  refine iteF ?_
  obtain ⟨e', rfl⟩ : ∃ e', e = e' + 1 := ⟨e - 1, by have := of_decide_eq_false c1; omega⟩
  have hc8 := c8 e'
  rw [p4] at hB q
  have hen' : e' < n := by omega
  refine ⟨_, rfl, p, _, rfl, (dk_left r _ _ _ ▸ DGet.k (k := Sum.inr "left") hp1), _, _, rfl, rfl, _, rfl, p, _, rfl, DPut.k (k := Sum.inr "left") hp1 (by show 4 < sizeLine; decide), ?_⟩
  rw [dk_putl]
  have npr : r ≠ p := ne_of hrow1 hp1 (by intro z; cases z)
  have dG : DAt (upd H1 p (.dK (dk4 r i1 nn (left - 1)))) p r (B + 1) := ⟨row, i1, nn, left - 1, upd_same, by rw [upd_ne npr]; exact hrow1, ok1, hi1⟩
  have kG : Keep p H (upd H1 p (.dK (dk4 r i1 nn (left - 1)))) := k1.trans fun b o hb e => by rw [upd_ne hb]; exact e
  generalize upd H1 p (.dK (dk4 r i1 nn (left - 1))) = G at dG kG ⊢
  refine ⟨_, rfl, _, _, rfl, rfl, _, rfl, ?_⟩
  show if decide (u < 5) = true then _ else _
  rcases Bool.eq_false_or_eq_true (decide (u < 5)) with t1 | t1
  · rw [t1]
    refine iteT ?_
    refine ⟨_, rfl, _, rfl, _, _, rfl, rfl, p, r, _, e', ed _ _, hen', dG, by omega, fun v1 g1 G1 k1 d1 a1 h1 => ?_⟩
    refine ⟨_, rfl, _, rfl, _, _, rfl, rfl, p, r, _, e', ed _ _, hen', d1, by omega, fun v2 g2 G2 k2 d2 a2 h2 => ?_⟩
    refine ⟨by show 3 ≤ sizeLine; decide, fun t ht => ?_⟩
    have s3 := same_new ht (.tup [.str "app", v1, v2])
    have f3 := fr_same (B := F0) s3
    exact q _ (.tup [.str "app", g1, g2]) _ (((kG.trans k1).trans k2).trans (Keep.same s3)) ((d2.same s3).more (by omega)) (at_tup upd_same (ats_cons (at_str' (by decide +kernel)) (ats_cons ((a1.keep (fr_keep k2 d1)).keep f3) (ats_cons (a2.keep f3) ats_nil)))) (gt_app h1 h2)
  rw [t1]
  refine iteF ?_
  refine ⟨_, rfl, _, _, rfl, rfl, _, rfl, ?_⟩
  show if decide (u < 7) = true then _ else _
  rcases Bool.eq_false_or_eq_true (decide (u < 7)) with t2 | t2
  · rw [t2]
    refine iteT ?_
    refine ⟨_, rfl, p, r, _, rfl, dG, fun z G0 hz k0 d0 => ?_⟩
    refine ⟨_, rfl, _, rfl, _, _, rfl, rfl, p, r, _, e', ed _ _, hen', d0, by omega, fun v1 g1 G1 k1 d1 a1 h1 => ?_⟩
    refine ⟨by show 3 ≤ sizeLine; decide, fun t ht => ?_⟩
    have s3 := same_new ht (.tup [.str "lam", .str z, v1])
    have f3 := fr_same (B := F0) s3
    exact q _ (.tup [.str "lam", .str z, g1]) _ (((kG.trans k0).trans k1).trans (Keep.same s3)) ((d1.same s3).more (by omega)) (at_tup upd_same (ats_cons (at_str' (by decide +kernel)) (ats_cons (at_str' (names_ok z hz).2.2) (ats_cons (a1.keep f3) ats_nil)))) (gt_lam hz h1)
  rw [t2]
  refine iteF ?_
  refine ⟨_, rfl, rfl, _, rfl, ?_⟩
  show if decide (V.int u = V.int 7) = true then _ else _
  rcases Bool.eq_false_or_eq_true (decide (V.int u = V.int 7)) with t3 | t3
  · rw [t3]
    refine iteT ?_
    refine ⟨_, rfl, _, rfl, p, r, _, rfl, dG, fun n2 G0 n20 n21 k0 d0 => ?_⟩
    have m20 := Int.emod_nonneg n2 (show (3 : Int) ≠ 0 by decide)
    have m21 := Int.emod_lt_of_pos n2 (show (0 : Int) < 3 by decide)
    refine ⟨_, _, rfl, rfl, (show (0 : Int) < 3 by decide), _, _, rfl, rfl, p, r, _, (1 + n2 % 3).toNat, by rw [Int.toNat_of_nonneg (by omega)]; rfl, by omega, d0, fun t zs G1 k1 d1 et hz hnd hzl hpos => ?_⟩
    have hzl3 : zs.length ≤ 3 := by omega
    have hzp : 0 < zs.length := hpos (by omega)
    refine ⟨_, rfl, t, rfl, ⟨_, SqT.of et⟩, fun D hD => ?_⟩
    obtain ⟨nDp, nDr⟩ := d1.fresh hD
    refine lc_tup (a := t) (xs := zs.map V.str) (fun i G' => ∃ (l : List Dd) (xs : List V), G' D = some (.lst xs) ∧ Keep p G1 G' ∧ DAt G' p r (B + 1 + 1 + (1 + n2 % 3).toNat + i * (8 * 4 ^ e' - 5)) ∧ Dd.Ats F0 G' (rowsL (zs.take i) l) xs ∧ l.length = i ∧ ∀ k ∈ l, Gt e' k) ⟨[], [], upd_same, Keep.same (same_new hD _), (d1.same (same_new hD _)).more (by omega), rfl, rfl, fun k h => by cases h⟩ (fun i G' hi ⟨_, _, _, h2, _⟩ => SqT.of (h2 _ _ (d1.ne_tup et) et)) ?_ ?_
    · rintro i x G' hx ⟨l, xs, h1, h2, h3, h4, h5, h6⟩
      rw [List.getElem?_map] at hx
      obtain ⟨z, hzi, rfl⟩ := Option.map_eq_some_iff.mp hx
      have hil : i < zs.length := (List.getElem?_eq_some_iff.mp hzi).1
      have hic : i * (8 * 4 ^ e' - 5) ≤ 2 * (8 * 4 ^ e' - 5) := Nat.mul_le_mul_right _ (by omega)
      have hic1 : (i + 1) * (8 * 4 ^ e' - 5) = i * (8 * 4 ^ e' - 5) + (8 * 4 ^ e' - 5) := Nat.succ_mul _ _
      have hxl := ats_len h4
      rw [rowsL_len (by rw [List.length_take, h5]; omega), h5] at hxl
      refine ⟨rfl, ?_⟩
      refine tYes_if ?_
      refine ⟨_, rfl, _, rfl, _, rfl, _, _, rfl, rfl, p, r, _, e', ed _ _, hen', h3, by omega, fun v1 g1 G2 k2 d2 a2 hg => ⟨by show 2 ≤ sizeLine; decide, fun u1 hu1 => ?_⟩⟩
      have h1' := k2 _ _ nDp h1
      have s3 := same_new hu1 (.tup [.str z, v1])
      have h1'' := s3 _ _ h1'
      have f3 := fr_same (B := F0) s3
      have e3 : upd G2 u1 (.tup [.str z, v1]) u1 = some (.tup [.str z, v1]) := upd_same
      have d3 := d2.same s3
      have a3 := a2.keep f3
      have h43 := (h4.keep (fr_keep k2 h3)).keep f3
      have k3 := (h2.trans k2).trans (Keep.same s3)
      generalize upd G2 u1 (.tup [.str z, v1]) = G3 at *
      have fL : Fr F0 G3 (upd G3 D (.lst (xs ++ [.ref u1]))) := fr_list h1'' fun z => z
      refine ⟨xs, h1'', szl (by omega), l ++ [g1], xs ++ [.ref u1], upd_same, keep_upd hD k3 _, (d3.off nDp nDr _).more (by omega), ?_, by rw [List.length_append, h5]; rfl, fun k hk => ?_⟩
      · rw [List.take_add_one, hzi, show rowsL (zs.take i ++ (some z).toList) (l ++ [g1]) = rowsL (zs.take i) l ++ [.tup [.str z, g1]] by
          unfold rowsL
          rw [List.zipWith_append (by rw [List.length_take, h5]; omega)]
          rfl]
        exact ats_app (h43.keep fL) (ats_one ((at_tup e3 (ats_cons (at_str' (names_ok z (hz z (List.mem_of_getElem? hzi))).2.2) (ats_cons a3 ats_nil))).keep fL))
      · rcases List.mem_append.mp hk with z' | z'
        · exact h6 k z'
        · rw [List.mem_singleton.mp z']; exact hg
    rintro G' ⟨l, xs, h1, h2, h3, h4, h5, h6⟩
    rw [List.length_map] at h3 h5
    rw [List.length_map, List.take_length] at h4
    have hic : zs.length * (8 * 4 ^ e' - 5) ≤ 3 * (8 * 4 ^ e' - 5) := Nat.mul_le_mul_right _ hzl3
    refine ⟨_, rfl, D, xs, rfl, .inl ⟨SqL.of h1, fun u1 hu1 => ?_⟩⟩
    have s3 := same_new hu1 (.tup xs)
    have e3 : upd G' u1 (.tup xs) u1 = some (.tup xs) := upd_same
    have d3 := h3.same s3
    have a3 := Dd.Ats.keep (fr_same (B := F0) s3) h4
    have kk3 := (((kG.trans k0).trans k1).trans h2).trans (Keep.same s3)
    generalize upd G' u1 (.tup xs) = G3 at *
    refine ⟨_, rfl, _, rfl, _, _, rfl, rfl, p, r, _, e', ed _ _, hen', d3, by omega, fun v4 g4 G4 k4 d4 a4 h4' => ⟨by show 3 ≤ sizeLine; decide, fun t5 ht5 => ?_⟩⟩
    have s5 := same_new ht5 (.tup [.str "let", .ref u1, v4])
    have f5 := fr_same (B := F0) s5
    exact q _ (.tup [.str "let", .tup (rowsL zs l), g4]) _ ((kk3.trans k4).trans (Keep.same s5)) ((d4.same s5).more (by omega)) (at_tup upd_same (ats_cons (at_str' (by decide +kernel)) (ats_cons (at_tup (s5 _ _ (k4 _ _ (d3.ne_tup e3) e3)) ((a3.keep (fr_keep k4 d3)).keep f5)) (ats_cons (a4.keep f5) ats_nil)))) (gt_let hz hnd h5.symm (by omega) (by omega) h6 h4')
  rw [t3]
  refine iteF ?_
  refine ⟨_, rfl, rfl, _, rfl, ?_⟩
  show if decide (V.int u = V.int 8) = true then _ else _
  rcases Bool.eq_false_or_eq_true (decide (V.int u = V.int 8)) with t4 | t4
  · rw [t4]
    refine iteT ?_
    refine ⟨_, rfl, p, r, _, rfl, dG, fun z G0 hz k0 d0 => ?_⟩
    refine ⟨_, rfl, _, rfl, _, _, rfl, rfl, p, r, _, e', ed _ _, hen', d0, by omega, fun v1 g1 G1 k1 d1 a1 h1 => ?_⟩
    refine ⟨_, rfl, _, rfl, _, _, rfl, rfl, p, r, _, e', ed _ _, hen', d1, by omega, fun v2 g2 G2 k2 d2 a2 h2 => ?_⟩
    refine ⟨by show 4 ≤ sizeLine; decide, fun t ht => ?_⟩
    have s3 := same_new ht (.tup [.str "seq", .str z, v1, v2])
    have f3 := fr_same (B := F0) s3
    exact q _ (.tup [.str "seq", .str z, g1, g2]) _ ((((kG.trans k0).trans k1).trans k2).trans (Keep.same s3)) ((d2.same s3).more (by omega)) (at_tup upd_same (ats_cons (at_str' (by decide +kernel)) (ats_cons (at_str' (names_ok z hz).2.2) (ats_cons ((a1.keep (fr_keep k2 d1)).keep f3) (ats_cons (a2.keep f3) ats_nil))))) (gt_seq hz h1 h2)
  rw [t4]
  refine iteF ?_
  refine ⟨_, rfl, rfl, _, rfl, ?_⟩
  show if decide (V.int u = V.int 9) = true then _ else _
  rcases Bool.eq_false_or_eq_true (decide (V.int u = V.int 9)) with t5 | t5
  · rw [t5]
    refine iteT (iteT ?_)
    refine ⟨_, rfl, p, r, _, rfl, dG, fun n2 G0 n20 n21 k0 d0 => ?_⟩
    have m20 := Int.emod_nonneg n2 (show (4 : Int) ≠ 0 by decide)
    have m21 := Int.emod_lt_of_pos n2 (show (0 : Int) < 4 by decide)
    refine ⟨_, _, rfl, rfl, (show (0 : Int) < 4 by decide), _, rfl, p, r, _, rfl, d0, fun n3 G1 n30 n31 k1 d1 => ?_⟩
    have m30 := Int.emod_nonneg n3 (show (3 : Int) ≠ 0 by decide)
    have m31 := Int.emod_lt_of_pos n3 (show (0 : Int) < 3 by decide)
    refine ⟨_, _, rfl, rfl, (show (0 : Int) < 3 by decide), _, rfl, _, rfl, by omega, by omega, fun D hD => ?_⟩
    obtain ⟨nDp, nDr⟩ := d1.fresh hD
    have hm3 : (n2 % 4).toNat ≤ 3 := by omega
    refine lc_range (Pv := fun i G' => ∃ (l : List Dd) (xs : List V), G' D = some (.lst xs) ∧ Keep p G1 G' ∧ DAt G' p r (B + 3 + i * (8 * 4 ^ e' - 5)) ∧ Dd.Ats F0 G' l xs ∧ l.length = i ∧ ∀ k ∈ l, Gt e' k) ⟨[], [], upd_same, Keep.same (same_new hD _), (d1.same (same_new hD _)).more (by omega), rfl, rfl, fun k h => by cases h⟩ ?_ ?_
    · rintro i G' hi ⟨l, xs, h1, h2, h3, h4, h5, h6⟩
      have hic : i * (8 * 4 ^ e' - 5) ≤ 2 * (8 * 4 ^ e' - 5) := Nat.mul_le_mul_right _ (by omega)
      have hic1 : (i + 1) * (8 * 4 ^ e' - 5) = i * (8 * 4 ^ e' - 5) + (8 * 4 ^ e' - 5) := Nat.succ_mul _ _
      have hxl := ats_len h4
      refine ⟨rfl, ?_⟩
      refine tYes_if ?_
      refine ⟨_, rfl, _, rfl, _, _, rfl, rfl, p, r, _, e', ed _ _, hen', h3, by omega, fun v1 g1 G2 k2 d2 a2 hg => ?_⟩
      have h1' := k2 _ _ nDp h1
      have fL : Fr F0 G2 (upd G2 D (.lst (xs ++ [v1]))) := fr_list h1' fun z => z
      refine ⟨xs, h1', szl (by omega), l ++ [g1], xs ++ [v1], upd_same, keep_upd hD (h2.trans k2) _, (d2.off nDp nDr _).more (by omega), ats_app ((h4.keep (fr_keep k2 h3)).keep fL) (ats_one (a2.keep fL)), by rw [List.length_append, h5]; rfl, fun k hk => ?_⟩
      rcases List.mem_append.mp hk with z' | z'
      · exact h6 k z'
      · rw [List.mem_singleton.mp z']; exact hg
    rintro G' ⟨l, xs, h1, h2, h3, h4, h5, h6⟩
    have hic : (n2 % 4).toNat * (8 * 4 ^ e' - 5) ≤ 3 * (8 * 4 ^ e' - 5) := Nat.mul_le_mul_right _ hm3
    refine ⟨D, xs, rfl, .inl ⟨SqL.of h1, fun u1 hu1 => ?_⟩⟩
    have s3 := same_new hu1 (.tup xs)
    have e3 : upd G' u1 (.tup xs) u1 = some (.tup xs) := upd_same
    have d3 := h3.same s3
    have a3 := Dd.Ats.keep (fr_same (B := F0) s3) h4
    have kk3 := (((kG.trans k0).trans k1).trans h2).trans (Keep.same s3)
    generalize upd G' u1 (.tup xs) = G3 at *
    refine ⟨by show 3 ≤ sizeLine; decide, fun t5 ht5 => ?_⟩
    have s5 := same_new ht5 (.tup [.str "con", .int (n3 % 3), .ref u1])
    have f5 := fr_same (B := F0) s5
    exact q _ (.tup [.str "con", .int (n3 % 3), .tup l]) _ (kk3.trans (Keep.same s5)) ((d3.same s5).more (by omega)) (at_tup upd_same (ats_cons (at_str' (by decide +kernel)) (ats_cons at_int' (ats_cons (at_tup (s5 _ _ e3) (a3.keep f5)) ats_nil)))) (gt_con m30 (by omega) (by omega) h6)
  rw [t5]
  refine iteF ?_
  refine ⟨_, rfl, rfl, _, rfl, ?_⟩
  show if decide (V.int u = V.int 10) = true then _ else _
  rcases Bool.eq_false_or_eq_true (decide (V.int u = V.int 10)) with t6 | t6
  · rw [t6]
    refine iteT ?_
    refine ⟨_, rfl, p, r, _, rfl, dG, fun n2 G0 n20 n21 k0 d0 => ?_⟩
    have m20 := Int.emod_nonneg n2 (show (4 : Int) ≠ 0 by decide)
    have m21 := Int.emod_lt_of_pos n2 (show (0 : Int) < 4 by decide)
    refine ⟨_, _, rfl, rfl, (show (0 : Int) < 4 by decide), _, rfl, p, r, _, rfl, d0, fun n3 G1 n30 n31 k1 d1 => ?_⟩
    have m30 := Int.emod_nonneg n3 (show (3 : Int) ≠ 0 by decide)
    have m31 := Int.emod_lt_of_pos n3 (show (0 : Int) < 3 by decide)
    refine ⟨_, _, rfl, rfl, (show (0 : Int) < 3 by decide), _, rfl, _, rfl, by omega, by omega, fun D hD => ?_⟩
    obtain ⟨nDp, nDr⟩ := d1.fresh hD
    have hm3 : (n2 % 4).toNat ≤ 3 := by omega
    refine lc_range (Pv := fun i G' => ∃ (l : List Dd) (xs : List V), G' D = some (.lst xs) ∧ Keep p G1 G' ∧ DAt G' p r (B + 3 + i * (8 * 4 ^ e' - 5)) ∧ Dd.Ats F0 G' l xs ∧ l.length = i ∧ ∀ k ∈ l, Gt e' k) ⟨[], [], upd_same, Keep.same (same_new hD _), (d1.same (same_new hD _)).more (by omega), rfl, rfl, fun k h => by cases h⟩ ?_ ?_
    · rintro i G' hi ⟨l, xs, h1, h2, h3, h4, h5, h6⟩
      have hic : i * (8 * 4 ^ e' - 5) ≤ 2 * (8 * 4 ^ e' - 5) := Nat.mul_le_mul_right _ (by omega)
      have hic1 : (i + 1) * (8 * 4 ^ e' - 5) = i * (8 * 4 ^ e' - 5) + (8 * 4 ^ e' - 5) := Nat.succ_mul _ _
      have hxl := ats_len h4
      refine ⟨rfl, ?_⟩
      refine tYes_if ?_
      refine ⟨_, rfl, _, rfl, _, _, rfl, rfl, p, r, _, e', ed _ _, hen', h3, by omega, fun v1 g1 G2 k2 d2 a2 hg => ?_⟩
      have h1' := k2 _ _ nDp h1
      have fL : Fr F0 G2 (upd G2 D (.lst (xs ++ [v1]))) := fr_list h1' fun z => z
      refine ⟨xs, h1', szl (by omega), l ++ [g1], xs ++ [v1], upd_same, keep_upd hD (h2.trans k2) _, (d2.off nDp nDr _).more (by omega), ats_app ((h4.keep (fr_keep k2 h3)).keep fL) (ats_one (a2.keep fL)), by rw [List.length_append, h5]; rfl, fun k hk => ?_⟩
      rcases List.mem_append.mp hk with z' | z'
      · exact h6 k z'
      · rw [List.mem_singleton.mp z']; exact hg
    rintro G' ⟨l, xs, h1, h2, h3, h4, h5, h6⟩
    have hic : (n2 % 4).toNat * (8 * 4 ^ e' - 5) ≤ 3 * (8 * 4 ^ e' - 5) := Nat.mul_le_mul_right _ hm3
    refine ⟨D, xs, rfl, .inl ⟨SqL.of h1, fun u1 hu1 => ?_⟩⟩
    have s3 := same_new hu1 (.tup xs)
    have e3 : upd G' u1 (.tup xs) u1 = some (.tup xs) := upd_same
    have d3 := h3.same s3
    have a3 := Dd.Ats.keep (fr_same (B := F0) s3) h4
    have kk3 := (((kG.trans k0).trans k1).trans h2).trans (Keep.same s3)
    generalize upd G' u1 (.tup xs) = G3 at *
    refine ⟨by show 3 ≤ sizeLine; decide, fun t5 ht5 => ?_⟩
    have s5 := same_new ht5 (.tup [.str "con", .int (n3 % 3), .ref u1])
    have f5 := fr_same (B := F0) s5
    exact q _ (.tup [.str "con", .int (n3 % 3), .tup l]) _ (kk3.trans (Keep.same s5)) ((d3.same s5).more (by omega)) (at_tup upd_same (ats_cons (at_str' (by decide +kernel)) (ats_cons at_int' (ats_cons (at_tup (s5 _ _ e3) (a3.keep f5)) ats_nil)))) (gt_con m30 (by omega) (by omega) h6)
  rw [t6]
  refine iteF ?_
  refine ⟨_, rfl, rfl, _, rfl, ?_⟩
  show if decide (V.int u = V.int 11) = true then _ else _
  rcases Bool.eq_false_or_eq_true (decide (V.int u = V.int 11)) with t7 | t7
  · rw [t7]
    refine iteT (iteT ?_)
    exact ⟨_, rfl, _, rfl, p, r, _, e', rfl, hen', dG, by rw [p4]; omega, fun v k H' kk dd aa gg => q v k H' (kG.trans kk) (dd.more (by rw [p4]; omega)) aa gg⟩
  rw [t7]
  refine iteF ?_
  refine ⟨_, rfl, rfl, _, rfl, ?_⟩
  show if decide (V.int u = V.int 12) = true then _ else _
  rcases Bool.eq_false_or_eq_true (decide (V.int u = V.int 12)) with t8 | t8
  · rw [t8]
    refine iteT ?_
    exact ⟨_, rfl, _, rfl, p, r, _, e', rfl, hen', dG, by rw [p4]; omega, fun v k H' kk dd aa gg => q v k H' (kG.trans kk) (dd.more (by rw [p4]; omega)) aa gg⟩
  rw [t8]
  refine iteF ?_
  refine ⟨_, rfl, rfl, _, rfl, ?_⟩
  show if decide (V.int u = V.int 13) = true then _ else _
  rcases Bool.eq_false_or_eq_true (decide (V.int u = V.int 13)) with t9 | t9
  · rw [t9]
    refine iteT ?_
    refine ⟨_, rfl, p, r, _, rfl, dG, fun n2 G0 n20 n21 k0 d0 => ?_⟩
    refine ⟨_, rfl, _, rfl, _, _, rfl, rfl, p, r, _, e', ed _ _, hen', d0, by omega, fun v1 g1 G1 k1 d1 a1 h1 => ?_⟩
    refine ⟨by show 3 ≤ sizeLine; decide, fun t ht => ?_⟩
    have s3 := same_new ht (.tup [.str "note", .int n2, v1])
    have f3 := fr_same (B := F0) s3
    exact q _ (.tup [.str "note", .int n2, g1]) _ (((kG.trans k0).trans k1).trans (Keep.same s3)) ((d1.same s3).more (by omega)) (at_tup upd_same (ats_cons (at_str' (by decide +kernel)) (ats_cons at_int' (ats_cons (a1.keep f3) ats_nil)))) (gt_note n20 (by omega) h1)
  rw [t9]
  refine iteF ?_
  refine ⟨by show 8 ≤ sizeLine; decide, fun lz hlz => ?_⟩
  have s2 := same_new hlz (.lst (signs.map V.str))
  have e2 : upd G lz (.lst (signs.map V.str)) lz = some (.lst (signs.map V.str)) := upd_same
  have d2 := dG.same s2
  have k2 := kG.trans (Keep.same s2)
  refine ⟨_, rfl, p, r, _, rfl, d2, fun n2 G0 n20 n21 k0 d0 => ?_⟩
  obtain ⟨z, hz, ez⟩ := at_str (zs := signs) (i := n2 % 8) (Int.emod_nonneg _ (by decide)) (by show n2 % 8 < 8; exact Int.emod_lt_of_pos _ (by decide))
  refine ⟨_, _, rfl, rfl, (show (0 : Int) < 8 by decide), lz, _, _, _, rfl, rfl, SqL.of (k0 _ _ (d2.ne_list e2) e2), ez, ?_⟩
  have k0 := k2.trans k0
  refine ⟨_, rfl, ?_⟩
  refine ⟨_, rfl, _, rfl, _, _, rfl, rfl, p, r, _, e', ed _ _, hen', d0, by omega, fun v1 g1 G1 k1 d1 a1 h1 => ?_⟩
  refine ⟨_, rfl, _, rfl, _, _, rfl, rfl, p, r, _, e', ed _ _, hen', d1, by omega, fun v2 g2 G2 k2 d2 a2 h2 => ?_⟩
  refine ⟨by show 4 ≤ sizeLine; decide, fun t ht => ?_⟩
  have s3 := same_new ht (.tup [.str "prim", .str z, v1, v2])
  have f3 := fr_same (B := F0) s3
  exact q _ (.tup [.str "prim", .str z, g1, g2]) _ (((k0.trans k1).trans k2).trans (Keep.same s3)) ((d2.same s3).more (by omega)) (at_tup upd_same (ats_cons (at_str' (by decide +kernel)) (ats_cons (at_str' (signs_ok z hz)) (ats_cons ((a1.keep (fr_keep k2 d1)).keep f3) (ats_cons (a2.keep f3) ats_nil))))) (gt_prim hz h1 h2)
theorem c_any {fa fb : Addr} {fda fdb : FuncData} (T : TxtG mg) (c_law_take : C8.Cal P w K mg base 1 "_law_take" spTake []) (c_law_name : C8.Cal P w K mg base 2 "_law_name" spLName []) (c_law_names : C8.Cal P w K mg base 3 "_law_names" spLNames []) (Fa : Fun K "_law_any" "_law_any" sAny fa fda) (ba : Binds K fda ["d", "depth"] []) (hma : mg "_law_any" = some (.ref fa)) (Fb : Fun K "_law_any_branch" "_law_any_branch" sBranch fb fdb) (bb : Binds K fdb ["d", "depth"] []) (hmb : mg "_law_any_branch" = some (.ref fb)) : ∀ n : Nat, C8.Cal P w K mg base (2 * n + 4) "_law_any" (spAny n) []
  | 0 => cal_none Fa hma ba fun vs H Q E h => by
    obtain ⟨p, r, B, e, _, h, _⟩ := h
    omega
  | n + 1 => c_any1 T c_law_take c_law_name c_law_names (c_any T c_law_take c_law_name c_law_names Fa ba hma Fb bb hmb n) (c_branch T c_law_take c_law_name c_law_names (c_any T c_law_take c_law_name c_law_names Fa ba hma Fb bb hmb n) Fb bb hmb) Fa ba hma
end
end Toy

set_option Elab.async false
set_option linter.all false
set_option maxRecDepth 100000
set_option maxHeartbeats 4000000
/-! Part L: a part of a term replaced, in plain Lean. -/
namespace Toy
open PySem L2
open PyProof.Rows (envOfC)
mutual
/-- the part at this place, in the order of the text, replaced -/
def rep (o : Dd) : Dd → Int → Dd × Int
  | .tup l, c => if c = 0 then (o, -1) else (.tup (reps o l (c - 1)).1, (reps o l (c - 1)).2)
  | k, c => (k, c)
def reps (o : Dd) : List Dd → Int → List Dd × Int
  | [], c => ([], c)
  | p :: l, c => if kindTup p = true ∧ 0 ≤ c then ((rep o p c).1 :: (reps o l (rep o p c).2).1, (reps o l (rep o p c).2).2) else (p :: (reps o l c).1, (reps o l c).2)
end
inductive One (p p' : Dd) : List Dd → List Dd → Prop
  | here {l : List Dd} : One p p' (p :: l) (p' :: l)
  | there {q : Dd} {l l' : List Dd} : One p p' l l' → One p p' (q :: l) (q :: l')
theorem One.split {p p' : Dd} : ∀ {l l' : List Dd}, One p p' l l' → ∃ A C, l = A ++ p :: C ∧ l' = A ++ p' :: C
  | _, _, .here (l := l) => ⟨[], l, rfl, rfl⟩
  | _, _, .there (q := q) h => by
    obtain ⟨A, C, e1, e2⟩ := h.split
    exact ⟨q :: A, C, by rw [e1]; rfl, by rw [e2]; rfl⟩
theorem One.mem {p p' : Dd} {l l' : List Dd} (h : One p p' l l') : p ∈ l := by
  obtain ⟨A, C, e1, e2⟩ := h.split
  rw [e1]
  exact List.mem_append_right _ (List.mem_cons_self ..)
theorem kind_is {p : Dd} (h : kindTup p = true) : ∃ z l, p = .tup (.str z :: l) ∧ z ∈ words := by
  match p, h with
  | .tup (.str z :: l), h => exact ⟨z, l, rfl, of_decide_eq_true h⟩
theorem form_word {w : Str} {r : List Dd} (h : formW w r = true) : w ∈ words := by
  refine Classical.byContradiction fun n => ?_
  rw [form_out n] at h
  cases h
theorem len1 {α : Type} {l : List α} (h : l.length = 1) : ∃ x, l = [x] := by
  match l, h with
  | [x], _ => exact ⟨x, rfl⟩
theorem len2 {α : Type} {l : List α} (h : l.length = 2) : ∃ x y, l = [x, y] := by
  match l, h with
  | [x, y], _ => exact ⟨x, y, rfl⟩
theorem len3 {α : Type} {l : List α} (h : l.length = 3) : ∃ x y z, l = [x, y, z] := by
  match l, h with
  | [x, y, z], _ => exact ⟨x, y, z, rfl⟩
theorem kn_name {p : Dd} (h : kindTup p = true) (k : isName p = true) : False := by
  obtain ⟨z, l, rfl, _⟩ := kind_is h
  cases k
theorem kn_num {p : Dd} {a b : Int} (h : kindTup p = true) (k : numIn a b p = true) : False := by
  obtain ⟨z, l, rfl, _⟩ := kind_is h
  cases k
theorem kn_sign {p : Dd} (h : kindTup p = true) (k : isSign p = true) : False := by
  obtain ⟨z, l, rfl, _⟩ := kind_is h
  cases k
theorem kn_rows {p : Dd} {n : Nat} (h : kindTup p = true) (k : areRows n p = true) : False := by
  obtain ⟨z, l, rfl, _⟩ := kind_is h
  have k : (false && l.all (isRow n)) = true := k
  cases k
theorem kn_not {p : Dd} (h : kindTup p = true) (k : (!kindTup p) = true) : False := by
  rw [h] at k
  cases k
/-- where such a member stands in a term, it is a part of it -/
theorem swap {w : Str} {r r' : List Dd} {p p' : Dd} (hf : formW w r = true) (hn : niceW w r = true) (hp : ∀ q ∈ partsW w r, formB q = true) (hk : kindTup p = true) (h : One p p' r r') :
    formW w r' = true ∧ ∃ A C, partsW w r = A ++ p :: C ∧ partsW w r' = A ++ p' :: C := by
  have hw := form_word hf
  simp only [words, List.mem_cons, List.not_mem_nil, or_false] at hw
  rcases hw with rfl | rfl | rfl | rfl | rfl | rfl | rfl | rfl | rfl | rfl | rfl
  · rw [fw_num] at hf
    obtain ⟨h1, h2⟩ := fand hf
    obtain ⟨x, rfl⟩ := len1 (of_decide_eq_true h1)
    cases h with
    | here => exact (kn_num hk h2).elim
    | there h => cases h
  · rw [fw_var] at hf
    obtain ⟨h1, h2⟩ := fand hf
    obtain ⟨x, rfl⟩ := len1 (of_decide_eq_true h1)
    cases h with
    | here => exact (kn_name hk h2).elim
    | there h => cases h
  · rw [fw_app] at hf ⊢
    rw [pw_app, pw_app]
    obtain ⟨A, C, rfl, rfl⟩ := h.split
    refine ⟨?_, A, C, rfl, rfl⟩
    unfold fApp at hf ⊢
    rw [List.length_append] at hf ⊢
    exact hf
  · rw [fw_lam] at hf ⊢
    rw [pw_lam, pw_lam]
    obtain ⟨h1, h2⟩ := fand hf
    obtain ⟨x, y, rfl⟩ := len2 (of_decide_eq_true h1)
    cases h with
    | here => exact (kn_name hk h2).elim
    | there h => cases h with
      | here => exact ⟨hf, [], [], rfl, rfl⟩
      | there h => cases h
  · rw [fw_let] at hf ⊢
    rw [pw_let, pw_let]
    obtain ⟨h1, h2⟩ := fand hf
    obtain ⟨h1, h3⟩ := fand h1
    obtain ⟨x, y, rfl⟩ := len2 (of_decide_eq_true h1)
    cases h with
    | here => exact (kn_rows hk h3).elim
    | there h => cases h with
      | here => exact ⟨hf, (tl x).map (nth 1), [], rfl, rfl⟩
      | there h => cases h
  · rw [fw_seq] at hf ⊢
    rw [pw_seq, pw_seq]
    obtain ⟨h1, h2⟩ := fand hf
    obtain ⟨x, y, z, rfl⟩ := len3 (of_decide_eq_true h1)
    cases h with
    | here => exact (kn_name hk h2).elim
    | there h => cases h with
      | here => exact ⟨hf, [], [z], rfl, rfl⟩
      | there h => cases h with
        | here => exact ⟨hf, [y], [], rfl, rfl⟩
        | there h => cases h
  · rw [pw_con] at hp
    rw [fw_con] at hf ⊢
    obtain ⟨h1, h2⟩ := fand hf
    obtain ⟨h2, h3⟩ := fand h2
    obtain ⟨x, y, rfl⟩ := len2 (of_decide_eq_true h1)
    cases h with
    | here => exact (kn_num hk h2).elim
    | there h => cases h with
      | here =>
        obtain ⟨z, l, rfl, _⟩ := kind_is hk
        have := hp (.str z) (List.mem_cons_self ..)
        cases this
      | there h => cases h
  · rw [fw_case] at hf ⊢
    rw [pw_case, pw_case]
    obtain ⟨h1, h2⟩ := fand hf
    obtain ⟨h1, h3⟩ := fand h1
    obtain ⟨h1, h4⟩ := fand h1
    obtain ⟨x, y, z, rfl⟩ := len3 (of_decide_eq_true h1)
    cases h with
    | here => exact ⟨hf, [], _, rfl, rfl⟩
    | there h => cases h with
      | here => exact (kn_rows hk h4).elim
      | there h => cases h with
        | here =>
          unfold niceW at hn
          rw [if_pos rfl] at hn
          exact (kn_not hk hn).elim
        | there h => cases h
  · rw [fw_pick] at hf ⊢
    rw [pw_pick, pw_pick]
    obtain ⟨h1, h2⟩ := fand hf
    obtain ⟨h1, h3⟩ := fand h1
    obtain ⟨h1, h4⟩ := fand h1
    obtain ⟨x, y, z, rfl⟩ := len3 (of_decide_eq_true h1)
    cases h with
    | here => exact ⟨hf, [], _, rfl, rfl⟩
    | there h => cases h with
      | here => exact (kn_rows hk h4).elim
      | there h => cases h with
        | here =>
          unfold niceW at hn
          rw [if_neg (by decide +kernel), if_pos rfl] at hn
          exact (kn_not hk hn).elim
        | there h => cases h
  · rw [fw_prim] at hf ⊢
    rw [pw_prim, pw_prim]
    obtain ⟨h1, h2⟩ := fand hf
    obtain ⟨x, y, z, rfl⟩ := len3 (of_decide_eq_true h1)
    cases h with
    | here => exact (kn_sign hk h2).elim
    | there h => cases h with
      | here => exact ⟨hf, [], [z], rfl, rfl⟩
      | there h => cases h with
        | here => exact ⟨hf, [y], [], rfl, rfl⟩
        | there h => cases h
  · rw [fw_note] at hf ⊢
    rw [pw_note, pw_note]
    obtain ⟨h1, h2⟩ := fand hf
    obtain ⟨x, y, rfl⟩ := len2 (of_decide_eq_true h1)
    cases h with
    | here => exact (kn_num hk h2).elim
    | there h => cases h with
      | here => exact ⟨hf, [], [], rfl, rfl⟩
      | there h => cases h
theorem isN_form {n : Nat} {k : Dd} (h : isN n k = true) : formB k = true := by
  cases n with
  | zero => cases h
  | succ n => exact (fand (fand h).1).1
theorem one_self {p : Dd} {C : List Dd} : ∀ A : List Dd, One p p (A ++ p :: C) (A ++ p :: C)
  | [] => .here
  | a :: A => .there (one_self A)
theorem form_head {l : List Dd} (h : formB (.tup l) = true) : ∃ w r, l = .str w :: r := by
  match l, h with
  | .str w :: r, _ => exact ⟨w, r, rfl⟩
/-- a member that begins with a word is a part, and a term -/
theorem isN_member {n : Nat} {w : Str} {r : List Dd} {p : Dd} (h : isN (n + 1) (.tup (.str w :: r)) = true) (hm : p ∈ r) (hk : kindTup p = true) : isN n p = true := by
  obtain ⟨h1, h2⟩ := fand h
  obtain ⟨h1, h3⟩ := fand h1
  have h2 := List.all_eq_true.mp h2
  obtain ⟨A, C, rfl⟩ := List.append_of_mem hm
  have o : One p p (A ++ p :: C) (A ++ p :: C) := one_self A
  obtain ⟨_, A', C', e, _⟩ := swap h1 h3 (fun q hq => isN_form (h2 q hq)) hk o
  refine h2 p ?_
  show p ∈ partsW w (A ++ p :: C)
  rw [e]
  exact List.mem_append_right _ (List.mem_cons_self ..)
theorem one_term {n : Nat} {l l' : List Dd} {p p' : Dd} {b : Bool} (h : isN n (.tup l) = true) (o : One p p' l l') (hk : kindTup p = true) (hb : ∀ n, isN n p = true → isTT p' = b) : isTT (.tup l') = b := by
  cases n with
  | zero => cases h
  | succ n =>
    obtain ⟨w, r, rfl⟩ := form_head (isN_form h)
    obtain ⟨r', rfl, o2⟩ : ∃ r', l' = .str w :: r' ∧ One p p' r r' := by
      cases o with
      | here => cases hk
      | there o => exact ⟨_, rfl, o⟩
    have hpn := isN_member h o2.mem hk
    obtain ⟨h1, h2⟩ := fand h
    obtain ⟨h1, h3⟩ := fand h1
    have h2 := List.all_eq_true.mp h2
    obtain ⟨f', A, C, e, e'⟩ := swap h1 h3 (fun q hq => isN_form (h2 q hq)) hk o2
    rw [isTT_eq, show formB (.tup (.str w :: r')) = true from f', Bool.true_and, show partsD (.tup (.str w :: r')) = A ++ p' :: C from e', List.all_append, List.all_cons, hb n hpn]
    have hA : A.all isTT = true := List.all_eq_true.mpr fun q hq => isN_T n q (h2 q (by show q ∈ partsW w r; rw [e]; exact List.mem_append_left _ hq))
    have hC : C.all isTT = true := List.all_eq_true.mpr fun q hq => isN_T n q (h2 q (by show q ∈ partsW w r; rw [e]; exact List.mem_append_right _ (List.mem_cons_of_mem _ hq)))
    rw [hA, hC, Bool.true_and, Bool.and_true]
mutual
theorem rep_spec (o : Dd) : ∀ (k : Dd) (c : Int), 0 ≤ c → (0 ≤ (rep o k c).2 ∧ (rep o k c).1 = k) ∨ ((rep o k c).2 = -1 ∧ ∀ n, isN n k = true → isTT (rep o k c).1 = isTT o)
  | .tup l, c, h => by
    unfold rep
    by_cases hc : c = 0
    · rw [if_pos hc]
      exact .inr ⟨rfl, fun _ _ => rfl⟩
    · rw [if_neg hc]
      rcases reps_spec o l (c - 1) (by omega) with ⟨h1, h2⟩ | ⟨h1, p, p', h2, h3, h4⟩
      · exact .inl ⟨h1, by show Dd.tup _ = _; rw [h2]⟩
      · exact .inr ⟨h1, fun n hn => one_term hn h2 h3 h4⟩
  | .non, c, h => .inl ⟨h, rfl⟩
  | .bl _, c, h => .inl ⟨h, rfl⟩
  | .int _, c, h => .inl ⟨h, rfl⟩
  | .str _, c, h => .inl ⟨h, rfl⟩
  | .lst _, c, h => .inl ⟨h, rfl⟩
theorem reps_spec (o : Dd) : ∀ (l : List Dd) (c : Int), 0 ≤ c → (0 ≤ (reps o l c).2 ∧ (reps o l c).1 = l) ∨ ((reps o l c).2 = -1 ∧ ∃ p p', One p p' l (reps o l c).1 ∧ kindTup p = true ∧ ∀ n, isN n p = true → isTT p' = isTT o)
  | [], c, h => .inl ⟨h, rfl⟩
  | q :: l, c, h => by
    unfold reps
    by_cases hq : kindTup q = true ∧ 0 ≤ c
    · rw [if_pos hq]
      rcases rep_spec o q c h with ⟨h1, h2⟩ | ⟨h1, h2⟩
      · rcases reps_spec o l _ h1 with ⟨g1, g2⟩ | ⟨g1, p, p', g2, g3, g4⟩
        · exact .inl ⟨g1, by show _ :: _ = _; rw [h2, g2]⟩
        · exact .inr ⟨g1, p, p', by show One p p' _ (_ :: _); rw [h2]; exact .there g2, g3, g4⟩
      · refine .inr ⟨?_, q, (rep o q c).1, ?_, hq.1, h2⟩
        · show (reps o l (rep o q c).2).2 = -1
          rw [h1]
          exact (reps_neg o l (-1) (by decide)).2
        · show One q _ _ ((rep o q c).1 :: (reps o l (rep o q c).2).1)
          rw [h1, (reps_neg o l (-1) (by decide)).1]
          exact .here
    · rw [if_neg hq]
      rcases reps_spec o l c h with ⟨g1, g2⟩ | ⟨g1, p, p', g2, g3, g4⟩
      · exact .inl ⟨g1, by show _ :: _ = _; rw [g2]⟩
      · exact .inr ⟨g1, p, p', .there g2, g3, g4⟩
theorem reps_neg (o : Dd) : ∀ (l : List Dd) (c : Int), c < 0 → (reps o l c).1 = l ∧ (reps o l c).2 = c
  | [], c, h => ⟨rfl, rfl⟩
  | q :: l, c, h => by
    unfold reps
    rw [if_neg (fun z => by omega)]
    obtain ⟨h1, h2⟩ := reps_neg o l c h
    exact ⟨by show _ :: _ = _; rw [h1], h2⟩
end
mutual
theorem rep_sz (o : Dd) : ∀ (k : Dd) (c : Int), (rep o k c).1.sz ≤ k.sz + o.sz
  | .tup l, c => by
    unfold rep
    by_cases hc : c = 0
    · rw [if_pos hc]
      exact Nat.le_add_left _ _
    · rw [if_neg hc]
      have := reps_sz o l (c - 1)
      have h2 : Dd.szs (reps o l (c - 1)).1 ≤ Dd.szs l + o.sz := by
        rcases this with h | ⟨h, _⟩ <;> omega
      show 1 + _ ≤ 1 + Dd.szs l + o.sz
      omega
  | .non, c => Nat.le_add_right _ _
  | .bl _, c => Nat.le_add_right _ _
  | .int _, c => Nat.le_add_right _ _
  | .str _, c => Nat.le_add_right _ _
  | .lst _, c => Nat.le_add_right _ _
theorem reps_sz (o : Dd) : ∀ (l : List Dd) (c : Int), Dd.szs (reps o l c).1 ≤ Dd.szs l ∨ (Dd.szs (reps o l c).1 ≤ Dd.szs l + o.sz ∧ (reps o l c).2 < 0)
  | [], c => .inl (Nat.le_refl _)
  | q :: l, c => by
    unfold reps
    by_cases hq : kindTup q = true ∧ 0 ≤ c
    · rw [if_pos hq]
      rcases rep_spec o q c hq.2 with ⟨h1, h2⟩ | ⟨h1, h2⟩
      · rcases reps_sz o l (rep o q c).2 with g | ⟨g, g2⟩
        · refine .inl ?_
          show (rep o q c).1.sz + _ ≤ q.sz + Dd.szs l
          rw [h2]
          omega
        · refine .inr ⟨?_, g2⟩
          show (rep o q c).1.sz + _ ≤ q.sz + Dd.szs l + o.sz
          rw [h2]
          omega
      · have hs := rep_sz o q c
        obtain ⟨g1, g2⟩ := reps_neg o l (-1) (by decide)
        refine .inr ⟨?_, ?_⟩
        · show (rep o q c).1.sz + Dd.szs (reps o l (rep o q c).2).1 ≤ q.sz + Dd.szs l + o.sz
          rw [h1, g1]
          omega
        · show (reps o l (rep o q c).2).2 < 0
          rw [h1, g2]
          decide
    · rw [if_neg hq]
      rcases reps_sz o l c with g | ⟨g, g2⟩
      · exact .inl (by show q.sz + _ ≤ q.sz + Dd.szs l; omega)
      · exact .inr ⟨by show q.sz + _ ≤ q.sz + Dd.szs l + o.sz; omega, g2⟩
end
end Toy

set_option Elab.async false
set_option linter.all false
set_option maxRecDepth 100000
set_option maxHeartbeats 4000000
/-! Part M: a part of a term replaced, as the law does it. -/
namespace Toy
open PySem L2
open PyProof.Rows (envOfC)
theorem pe_c0 {X : Cx} {k j : Nat} {x : Str} {sp : Sp} {dvs : List V} {p pos : Pos} (c : C8.Cal X.prog X.w X.K X.mg X.base k x sp dvs) (hr : Room j X.A) (hk : k ≤ j) (hg : Gl X x) (hdb : (x == ("__debug__" : Str)) = false := by decide) :
    PE X (.Call (.Name x p) [] [] pos) (tCall sp dvs C8.E0 tNil) := by
  obtain ⟨f, fd, ps, ds, F, hm, kp, b, d⟩ := c.ex
  exact pe_call0 F (hr.mono hk) hg hm kp b d C8.pass0 hdb
structure TxtR (mg : Str → Option Value) : Prop where
  zrange : mg "range" = none
  ztuple : mg "tuple" = none
  zisinstance : mg "isinstance" = none
  zlen : mg "len" = none
  zstr : mg "str" = none
  zbool : mg "bool" = none
section
variable {P : Program} {w : World} {K : PySem.W.Frag} {mg : Str → Option Value} {base : Heap}
abbrev sKinds : Stmt := topS 55
theorem scKinds : FnScope [] [] (defScope sKinds) := ⟨rfl, rfl, rfl, by decide +kernel, rfl, by decide +kernel, by decide +kernel⟩
def spKinds : Sp := fun vs H Q _ => vs = [] ∧ ∀ (L : Addr) (H' : Hp), H L = none → Same H H' → H' L = some (.lst (words.map V.str)) → Q (.ref L) H'
theorem c_kinds {f : Addr} {fd : FuncData} (F : Fun K "_law_kinds" "_law_kinds" sKinds f fd) (b : Binds K fd [] []) (hm : mg "_law_kinds" = some (.ref f)) : C8.Cal P w K mg base 1 "_law_kinds" spKinds [] := by
  refine cal_of F hm b scKinds (fun vs H Q E h => ?_) (fun cdv A outer s H vs Q E hr h => ?_)
  · obtain ⟨rfl, _⟩ := h
    rfl
  obtain ⟨rfl, q⟩ := h
  refine ⟨_, (pss_one (ps_ret (pe_lst (pa_strs (zs := ["num", "var", "app", "lam", "let", "seq", "con", "case", "pick", "prim", "note"]) rfl)))), ?_⟩
  exact ⟨by show 11 ≤ sizeLine; decide, fun L hL => q L _ hL (same_new hL _) upd_same⟩
abbrev sReplace : Stmt := topS 54
theorem scReplace : FnScope ["term", "at", "other", "new", "part"] ["term", "at", "other"] (defScope sReplace) := ⟨rfl, rfl, rfl, by decide +kernel, rfl, by decide +kernel, by decide +kernel⟩
/-- what was in the heap, the place aside, is still there -/
def KeepP (pl : Addr) (H H' : Hp) : Prop := ∀ b o, b ≠ pl → H b = some o → H' b = some o
theorem KeepP.same {pl : Addr} {H H' : Hp} (s : Same H H') : KeepP pl H H' := fun b o _ e => s b o e
theorem KeepP.trans {pl : Addr} {H1 H2 H3 : Hp} (h : KeepP pl H1 H2) (k : KeepP pl H2 H3) : KeepP pl H1 H3 := fun b o n e => k b o n (h b o n e)
theorem keepP_upd {pl D : Addr} {H H' : Hp} (h : H D = none) (k : KeepP pl H H') (o : HO) : KeepP pl H (upd H' D o) := fun b u n e => by
  rw [upd_ne (fun z => by rw [z, h] at e; cases e)]
  exact k b u n e
theorem fr_keepP {pl : Addr} {C : Addr → Prop} {H H' : Hp} {xs : List V} (h : H pl = some (.lst xs)) (n : ¬ C pl) (k : KeepP pl H H') : Fr C H H' :=
  ⟨fun a ys e => k a _ (fun z => by rw [z, h] at e; cases e) e, fun a ys b e => k a _ (fun z => n (z ▸ b)) e⟩
def spReplace (n : Nat) : Sp := fun vs H Q _ => ∃ (v vo : V) (pl : Addr) (c : Int) (k o : Dd) (C : Addr → Prop), vs = [v, .ref pl, vo] ∧ H pl = some (.lst [.int c]) ∧ 0 ≤ c ∧ ¬ C pl ∧ Dd.At C H k v ∧ Dd.At C H o vo ∧ kindTup k = true ∧ isN n k = true ∧ k.sz ≤ 40000 ∧ (∀ a, C a → H a ≠ none) ∧ ∀ (v' : V) (H' : Hp), KeepP pl H H' → H' pl = some (.lst [.int (rep o k c).2]) → Dd.At C H' (rep o k c).1 v' → Q v' H'
theorem c_replace1 {f : Addr} {fd : FuncData} (T : TxtR mg) (c_law_kinds : C8.Cal P w K mg base 1 "_law_kinds" spKinds []) {n : Nat} (c_law_replace : C8.Cal P w K mg base (n + 1) "_law_replace" (spReplace n) []) (F : Fun K "_law_replace" "_law_replace" sReplace f fd) (b : Binds K fd ["term", "at", "other"] []) (hm : mg "_law_replace" = some (.ref f)) : C8.Cal P w K mg base (n + 1 + 1) "_law_replace" (spReplace (n + 1)) [] := by
  refine cal_of F hm b scReplace (fun vs H Q E h => ?_) (fun cdv A outer s H vs Q E hr h => ?_)
  · obtain ⟨v, vo, pl, c, k, o, C, rfl, _⟩ := h
    rfl
  obtain ⟨v, vo, pl, c, k, o, C, rfl, hpl, hc, nC, hk, ho, hkt, hN, hsz, hC, q⟩ := h
  refine ⟨_, (pss_cons (ps_if (pt_cmpR op_eq (pe_ix ix_list (pv 1) pe_int (fun _ _ => rfl)) pe_int (nomark _))
      (pss_cons (ps_asg (pe_un un_neg pe_int) (pg_sub (pv 1) pe_int set_list))
    (pss_one (ps_ret (pv 2))))
      pss_nil)
    (pss_cons (ps_asg (pe_op op_sub (pe_ix ix_list (pv 1) pe_int (fun _ _ => rfl)) pe_int) (pg_sub (pv 1) pe_int set_list))
    (pss_cons (ps_set (i := 3) scReplace.nd rfl (Or.inl rfl) (pe_lst pa_nil))
    (pss_cons (ps_for PassesOwn.never rfl (pi_tup (pv 0)) (pg_name (i := 4) scReplace.nd rfl (Or.inl rfl))
      (pss_one (ps_if (PW.pt (pw_and (pt_val (pe_callB call_isi rfl T.zisinstance boot_isinstance (pa_cons (pv 4) (pa_cons (pe_bltn (v := .ty "tuple") rfl T.ztuple boot_tuple rfl) pa_nil)))) (pw_and (pt_cmpR op_gt (pe_callB call_len_seq rfl T.zlen PySem.boot_len (pa_cons (pv 4) pa_nil)) pe_int (nomark _)) (pw_and (pt_val (pe_callB call_isi rfl T.zisinstance boot_isinstance (pa_cons (pe_ix ix_tup (pv 4) pe_int (fun _ _ => rfl)) (pa_cons (pe_bltn (v := .ty "str") rfl T.zstr boot_str rfl) pa_nil)))) (pw_and (pt_cmpR op_in_seq (pe_ix ix_tup (pv 4) pe_int (fun _ _ => rfl)) (pe_c0 c_law_kinds hr (by omega) rfl) rfl) (pw_and1 (pt_cmpR op_ge (pe_ix ix_list (pv 1) pe_int (fun _ _ => rfl)) pe_int (nomark _))))))))
      (pss_one (ps_expr (pe_bm PySem.F.plainAttrs_list PySem.F.slot_list_append PySem.F.type_list_append mt_append (pv 3) (pa_cons (C8.pe_c c_law_replace hr (by omega) rfl (pa_cons (pv 4) (pa_cons (pv 1) (pa_cons (pv 2) pa_nil)))) pa_nil))))
      (pss_one (ps_expr (pe_bm PySem.F.plainAttrs_list PySem.F.slot_list_append PySem.F.type_list_append mt_append (pv 3) (pa_cons (pv 4) pa_nil)))))))
    (pss_one (ps_ret (pe_callTy call_tuple_of rfl T.ztuple boot_tuple (pa_cons (pv 3) pa_nil)))))))), ?_⟩
  obtain ⟨z, r, rfl, hz⟩ := kind_is hkt
  have hat := hk
  obtain ⟨a, xs, rfl, ha, hs⟩ := hk
  refine ⟨_, rfl, pl, _, 0, _, rfl, rfl, SqL.of hpl, at0 _ _, rfl, _, rfl, ?_⟩
  show if decide (V.int c = V.int 0) = true then _ else _
  have fr1 : ∀ o, Fr C H (upd H pl o) := fun o => fr_list hpl nC
  have kp1 : ∀ o, KeepP pl H (upd H pl o) := fun o b u n e => by rw [upd_ne n]; exact e
  by_cases hc0 : c = 0
  · rw [show decide (V.int c = V.int 0) = true from decide_eq_true (by rw [hc0])]
    refine iteT ?_
    refine ⟨_, rfl, _, rfl, pl, _, 0, 0, rfl, rfl, hpl, rfl, _, rfl, ?_⟩
    have er : rep o (.tup (.str z :: r)) c = (o, -1) := by unfold rep; rw [if_pos hc0]
    rw [er] at q
    exact q vo _ (kp1 _) upd_same (ho.keep (fr1 _))
  · rw [show decide (V.int c = V.int 0) = false from decide_eq_false fun e => hc0 (V.int.inj e)]
    refine iteF ?_
    refine ⟨_, rfl, pl, _, 0, _, rfl, rfl, SqL.of hpl, at0 _ _, _, _, rfl, rfl, _, rfl, pl, _, 0, 0, rfl, rfl, hpl, rfl, ?_⟩
    have er : rep o (.tup (.str z :: r)) c = (.tup (reps o (.str z :: r) (c - 1)).1, (reps o (.str z :: r) (c - 1)).2) := by
      show (if c = 0 then _ else _) = _
      rw [if_neg hc0]
    rw [er] at q
    have hpl1 : upd H pl (.lst ([V.int c].set 0 (V.int (c - 1)))) pl = some (.lst [.int (c - 1)]) := upd_same
    have k1 := kp1 (.lst ([V.int c].set 0 (V.int (c - 1))))
    generalize upd H pl (.lst ([V.int c].set 0 (V.int (c - 1)))) = H1 at hpl1 k1 ⊢
    refine ⟨by show 0 ≤ sizeLine; decide, fun L hL => ?_⟩
    have nLp : L ≠ pl := (ne_of_none hpl1 hL).symm
    have hLH : H L = none := by
      cases hh : H L with
      | none => rfl
      | some u => rw [k1 L u nLp hh] at hL; cases hL
    have nCL : ¬ C L := fun cL => hC L cL hLH
    generalize hl : Dd.str z :: r = l at *
    have hlen := ats_len hs
    have hsz' : 1 + Dd.szs l ≤ 40000 := hsz
    have hll := szs_len l
    have nplL : pl ≠ L := fun e => nLp e.symm
    refine ⟨_, rfl, a, rfl, ⟨_, SqT.of (by rw [upd_ne (fun e => by rw [e] at ha; rw [ha] at hLH; cases hLH)]; exact k1 _ _ (fun e => by rw [e, hpl] at ha; cases ha) ha)⟩, for_tup (a := a) (xs := xs)
      (fun i σ G => ∃ (v4 : Option V) (l2 : List Dd) (ys : List V) (cc : Int), σ = [some (.ref a), some (.ref pl), some vo, some (.ref L), v4] ∧ KeepP pl H G ∧ G pl = some (.lst [.int cc]) ∧ G L = some (.lst ys) ∧ Dd.Ats C G l2 ys ∧ ys.length = i ∧ reps o l (c - 1) = (l2 ++ (reps o (l.drop i) cc).1, (reps o (l.drop i) cc).2))
      ⟨_, [], [], c - 1, rfl, keepP_upd hLH k1 _, by rw [upd_ne nplL]; exact hpl1, upd_same, rfl, rfl, rfl⟩ (fun i σ G _ ⟨_, _, _, _, _, kG, _⟩ => SqT.of (kG _ _ (fun e => by rw [e, hpl] at ha; cases ha) ha)) ?_ ?_⟩
    · rintro i x σ G hx ⟨v4, l2, ys, cc, rfl, kG, hplG, hLG, aG, hyl, er2⟩
      obtain ⟨p, hp, hpx0⟩ := ats_get hs hx
      have hil : i < l.length := (List.getElem?_eq_some_iff.mp hp).1
      have hpm : p ∈ l := List.mem_of_getElem? hp
      have hpx := hpx0.keep (fr_keepP hpl nC kG)
      have hdrop : l.drop i = p :: l.drop (i + 1) := by
        rw [List.drop_eq_getElem_cons hil]
        congr 1
        exact (List.getElem?_eq_some_iff.mp hp).2
      have fin1 : ∀ (G' : Hp) (y : V) (p' : Dd) (c' : Int), KeepP pl H G' → G' pl = some (.lst [.int c']) → G' L = some (.lst ys) → Dd.Ats C G' l2 ys → p'.At C G' y → reps o (l.drop i) cc = (p' :: (reps o (l.drop (i + 1)) c').1, (reps o (l.drop (i + 1)) c').2) → ∃ (v4 : Option V) (l2 : List Dd) (ys2 : List V) (cc : Int), [some (.ref a), some (.ref pl), some vo, some (.ref L), some x] = [some (.ref a), some (.ref pl), some vo, some (.ref L), v4] ∧ KeepP pl H (upd G' L (.lst (ys ++ [y]))) ∧ upd G' L (.lst (ys ++ [y])) pl = some (.lst [.int cc]) ∧ upd G' L (.lst (ys ++ [y])) L = some (.lst ys2) ∧ Dd.Ats C (upd G' L (.lst (ys ++ [y]))) l2 ys2 ∧ ys2.length = i + 1 ∧ reps o l (c - 1) = (l2 ++ (reps o (l.drop (i + 1)) cc).1, (reps o (l.drop (i + 1)) cc).2) := fun G' y p' c' h1 h2 h3 h4 h5 h6 => by
        have fL : Fr C G' (upd G' L (.lst (ys ++ [y]))) := fr_list h3 nCL
        refine ⟨_, l2 ++ [p'], ys ++ [y], c', rfl, keepP_upd hLH h1 _, by rw [upd_ne nplL]; exact h2, upd_same, ats_app (h4.keep fL) (ats_one (h5.keep fL)), by rw [List.length_append, hyl]; rfl, ?_⟩
        rw [er2, h6, List.append_assoc]
        rfl
      have stay : (¬ (kindTup p = true ∧ 0 ≤ cc)) → reps o (l.drop i) cc = (p :: (reps o (l.drop (i + 1)) cc).1, (reps o (l.drop (i + 1)) cc).2) := fun n => by
        rw [hdrop]
        show (if kindTup p = true ∧ 0 ≤ cc then _ else _) = _
        rw [if_neg n]
      have go : kindTup p = true → 0 ≤ cc → reps o (l.drop i) cc = ((rep o p cc).1 :: (reps o (l.drop (i + 1)) (rep o p cc).2).1, (reps o (l.drop (i + 1)) (rep o p cc).2).2) := fun n1 n2 => by
        rw [hdrop]
        show (if kindTup p = true ∧ 0 ≤ cc then _ else _) = _
        rw [if_pos ⟨n1, n2⟩]
      refine ⟨_, rfl, x, .ty "tuple", _, _, _, rfl, .ty "tuple", ty_of hpx, kit_tup p, ?_⟩
      cases p with
      | tup l' =>
        obtain ⟨a', xs', rfl, ha', hs'⟩ := id hpx
        refine ⟨_, rfl, ?_⟩
        refine iteT ?_
        refine ⟨_, rfl, a', xs', rfl, .inr (SqT.of ha'), _, _, rfl, rfl, _, rfl, ?_⟩
        cases l' with
        | nil =>
          cases (show xs' = [] from hs')
          refine iteF (iteF ?_)
          refine ⟨_, rfl, .inl ⟨rfl, _, SqL.of hLG⟩, _, rfl, L, _, _, rfl, rfl, hLG, szl (by omega), ?_⟩
          exact fin1 G _ (.tup []) cc kG hplG hLG aG hpx (stay fun h => by cases h.1)
        | cons x1 r' =>
          obtain ⟨y1, ys1, rfl, hx1, hys1⟩ := id hs'
          show if decide ((0 : Int) < (((y1 :: ys1).length : Nat) : Int)) = true then _ else _
          rw [show decide ((0 : Int) < (((y1 :: ys1).length : Nat) : Int)) = true from decide_eq_true (by rw [List.length_cons]; omega)]
          refine iteT ?_
          refine ⟨_, rfl, a', _, 0, _, rfl, rfl, SqT.of ha', at0 _ _, y1, .ty "str", _, _, _, rfl, .ty "str", ty_of hx1, kit_str x1, ?_⟩
          cases x1 with
          | str z1 =>
            obtain ⟨hz1, hzl1⟩ := (show y1 = .str z1 ∧ z1.length ≤ 1000 from hx1)
            cases hz1
            refine ⟨_, rfl, ?_⟩
            refine iteT ?_
            refine ⟨_, rfl, a', _, 0, _, rfl, rfl, SqT.of ha', at0 _ _, rfl, fun L2 G2 hL2 s2 e2 => ?_⟩
            refine ⟨L2, _, rfl, .inl (SqL.of e2), rfl, flat_strs _, ?_⟩
            rw [show (if false = true then !inV (.str z1) (words.map V.str) else inV (.str z1) (words.map V.str)) = decide (z1 ∈ words) by rw [if_neg (by decide), inV_strs]]
            refine ⟨_, rfl, ?_⟩
            have hLG2 := s2 _ _ hLG
            have hplG2 := s2 _ _ hplG
            have aG2 := Dd.Ats.keep (fr_same (B := C) s2) aG
            have hpx2 := Dd.At.keep (fr_same (B := C) s2) hpx
            have kG2 := kG.trans (KeepP.same s2)
            cases hw : decide (z1 ∈ words) with
            | false =>
              refine iteF (iteF ?_)
              refine ⟨_, rfl, .inl ⟨rfl, _, SqL.of hLG2⟩, _, rfl, L, _, _, rfl, rfl, hLG2, szl (by omega), ?_⟩
              exact fin1 G2 _ (.tup (.str z1 :: r')) cc kG2 hplG2 hLG2 aG2 hpx2 (stay fun h => by rw [show kindTup (.tup (.str z1 :: r')) = decide (z1 ∈ words) from rfl, hw] at h; cases h.1)
            | true =>
              refine iteT ?_
              refine ⟨_, rfl, pl, _, 0, _, rfl, rfl, SqL.of hplG2, at0 _ _, _, _, rfl, rfl, _, rfl, ?_⟩
              show if decide ((0 : Int) ≤ cc) = true then _ else _
              cases hcc : decide ((0 : Int) ≤ cc) with
              | false =>
                refine iteF ?_
                refine ⟨_, rfl, .inl ⟨rfl, _, SqL.of hLG2⟩, _, rfl, L, _, _, rfl, rfl, hLG2, szl (by omega), ?_⟩
                exact fin1 G2 _ (.tup (.str z1 :: r')) cc kG2 hplG2 hLG2 aG2 hpx2 (stay fun h => of_decide_eq_false hcc h.2)
              | true =>
                refine iteT ?_
                have hcc := of_decide_eq_true hcc
                have hkp : kindTup (.tup (.str z1 :: r')) = true := hw
                have hpmem : Dd.tup (.str z1 :: r') ∈ r := by
                  rw [← hl] at hpm
                  rcases List.mem_cons.mp hpm with e | e
                  · cases e
                  · exact e
                have hszp := szs_mem hpm
                rw [← hl] at hN
                refine ⟨_, rfl, .inl ⟨rfl, _, SqL.of hLG2⟩, _, rfl, _, rfl, _, rfl, .ref a', vo, pl, cc, .tup (.str z1 :: r'), o, C, rfl, hplG2, hcc, nC, hpx2, ho.keep (fr_keepP hpl nC kG2), hkp, isN_member hN hpmem hkp, by omega, fun b cb => ?_, fun v' G3 k3 hpl3 a3 => ?_⟩
                · cases hb : H b with
                  | none => exact (hC b cb hb).elim
                  | some u => rw [kG2 b u (fun e => nC (e ▸ cb)) hb]; exact fun e => by cases e
                have hLG3 := k3 _ _ nLp hLG2
                refine ⟨L, _, _, rfl, rfl, hLG3, szl (by omega), ?_⟩
                exact fin1 G3 _ _ _ (kG2.trans k3) hpl3 hLG3 (aG2.keep (fr_keepP hplG2 nC k3)) a3 (go hkp hcc)
          | int i1 =>
            refine ⟨_, rfl, ?_⟩
            refine iteF (iteF ?_)
            refine ⟨_, rfl, .inl ⟨rfl, _, SqL.of hLG⟩, _, rfl, L, _, _, rfl, rfl, hLG, szl (by omega), ?_⟩
            exact fin1 G _ _ cc kG hplG hLG aG hpx (stay fun h => by cases h.1)
          | bl b1 =>
            refine ⟨_, rfl, ?_⟩
            refine iteF (iteF ?_)
            refine ⟨_, rfl, .inl ⟨rfl, _, SqL.of hLG⟩, _, rfl, L, _, _, rfl, rfl, hLG, szl (by omega), ?_⟩
            exact fin1 G _ _ cc kG hplG hLG aG hpx (stay fun h => by cases h.1)
          | non =>
            refine ⟨_, rfl, ?_⟩
            refine iteF (iteF ?_)
            refine ⟨_, rfl, .inl ⟨rfl, _, SqL.of hLG⟩, _, rfl, L, _, _, rfl, rfl, hLG, szl (by omega), ?_⟩
            exact fin1 G _ _ cc kG hplG hLG aG hpx (stay fun h => by cases h.1)
          | tup l1 =>
            refine ⟨_, rfl, ?_⟩
            refine iteF (iteF ?_)
            refine ⟨_, rfl, .inl ⟨rfl, _, SqL.of hLG⟩, _, rfl, L, _, _, rfl, rfl, hLG, szl (by omega), ?_⟩
            exact fin1 G _ _ cc kG hplG hLG aG hpx (stay fun h => by cases h.1)
          | lst l1 =>
            refine ⟨_, rfl, ?_⟩
            refine iteF (iteF ?_)
            refine ⟨_, rfl, .inl ⟨rfl, _, SqL.of hLG⟩, _, rfl, L, _, _, rfl, rfl, hLG, szl (by omega), ?_⟩
            exact fin1 G _ _ cc kG hplG hLG aG hpx (stay fun h => by cases h.1)
      | int i1 =>
        refine ⟨_, rfl, ?_⟩
        refine iteF (iteF ?_)
        refine ⟨_, rfl, .inl ⟨rfl, _, SqL.of hLG⟩, _, rfl, L, _, _, rfl, rfl, hLG, szl (by omega), ?_⟩
        exact fin1 G _ _ cc kG hplG hLG aG hpx (stay fun h => by cases h.1)
      | bl b1 =>
        refine ⟨_, rfl, ?_⟩
        refine iteF (iteF ?_)
        refine ⟨_, rfl, .inl ⟨rfl, _, SqL.of hLG⟩, _, rfl, L, _, _, rfl, rfl, hLG, szl (by omega), ?_⟩
        exact fin1 G _ _ cc kG hplG hLG aG hpx (stay fun h => by cases h.1)
      | non =>
        refine ⟨_, rfl, ?_⟩
        refine iteF (iteF ?_)
        refine ⟨_, rfl, .inl ⟨rfl, _, SqL.of hLG⟩, _, rfl, L, _, _, rfl, rfl, hLG, szl (by omega), ?_⟩
        exact fin1 G _ _ cc kG hplG hLG aG hpx (stay fun h => by cases h.1)
      | str s1 =>
        refine ⟨_, rfl, ?_⟩
        refine iteF (iteF ?_)
        refine ⟨_, rfl, .inl ⟨rfl, _, SqL.of hLG⟩, _, rfl, L, _, _, rfl, rfl, hLG, szl (by omega), ?_⟩
        exact fin1 G _ _ cc kG hplG hLG aG hpx (stay fun h => by cases h.1)
      | lst l1 =>
        refine ⟨_, rfl, ?_⟩
        refine iteF (iteF ?_)
        refine ⟨_, rfl, .inl ⟨rfl, _, SqL.of hLG⟩, _, rfl, L, _, _, rfl, rfl, hLG, szl (by omega), ?_⟩
        exact fin1 G _ _ cc kG hplG hLG aG hpx (stay fun h => by cases h.1)
    rintro σ G ⟨v4, l2, ys, cc, rfl, kG, hplG, hLG, aG, hyl, er2⟩
    rw [hlen, List.drop_length] at er2
    have er2 : reps o l (c - 1) = (l2 ++ [], cc) := er2
    rw [List.append_nil] at er2
    rw [er2] at q
    refine ⟨_, rfl, L, _, rfl, .inl ⟨SqL.of hLG, fun t ht => ?_⟩⟩
    have st := same_new ht (.tup ys)
    exact q (.ref t) _ (kG.trans (KeepP.same st)) (st _ _ hplG) (at_tup upd_same (aG.keep (fr_same st)))
theorem c_replace {f : Addr} {fd : FuncData} (T : TxtR mg) (c_law_kinds : C8.Cal P w K mg base 1 "_law_kinds" spKinds []) (F : Fun K "_law_replace" "_law_replace" sReplace f fd) (b : Binds K fd ["term", "at", "other"] []) (hm : mg "_law_replace" = some (.ref f)) : ∀ n : Nat, C8.Cal P w K mg base (n + 1) "_law_replace" (spReplace n) []
  | 0 => cal_none F hm b fun vs H Q E h => by
    obtain ⟨v, vo, pl, c, k, o, C, _, _, _, _, _, _, _, h, _⟩ := h
    cases h
  | n + 1 => c_replace1 T c_law_kinds (c_replace T c_law_kinds F b hm n) F b hm
end
end Toy

set_option Elab.async false
set_option linter.all false
set_option maxRecDepth 100000
set_option maxHeartbeats 4000000
/-! Part N: rows of things that are terms, and of things that are none. -/
namespace Toy
open PySem L2
open PyProof.Rows (envOfC)
/-- such a thing stands in the heap, its lists wherever -/
def AtX (H : Hp) (k : Dd) (v : V) : Prop := Dd.At (Ex H) H k v
theorem ex_same {H H' : Hp} (s : Same H H') {a : Addr} (h : Ex H a) : Ex H' a := by
  unfold Ex at h ⊢
  cases e : H a with
  | none => exact (h e).elim
  | some u => rw [s a u e]; exact fun z => by cases z
theorem AtX.same {H H' : Hp} {k : Dd} {v : V} (s : Same H H') (h : AtX H k v) : AtX H' k v := (Dd.At.keep (fr_same s) h).weak fun a xs _ e => ex_same s e
def AtsX (H : Hp) (l : List Dd) (vs : List V) : Prop := Dd.Ats (Ex H) H l vs
theorem AtsX.same {H H' : Hp} {l : List Dd} {vs : List V} (s : Same H H') (h : AtsX H l vs) : AtsX H' l vs := (Dd.Ats.keep (fr_same s) h).weak fun a xs _ e => ex_same s e
def oneD : Dd := .tup [.str "num", .int 1]
/-- this reading makes this thing; in the second place stands the term 1 -/
def Mk (te : TE) (k : Dd) : Prop := ∀ (σ : L2.St) (H : Hp) (Q : VK), (∃ v, σ[1]? = some (some v) ∧ AtX H oneD v) → (∀ v H', Same H H' → AtX H' k v → Q v H') → te σ H Q
def Mks (ta : TA) (l : List Dd) : Prop := ∀ (σ : L2.St) (H : Hp) (Q : List V → Hp → Prop), (∃ v, σ[1]? = some (some v) ∧ AtX H oneD v) → (∀ vs H', Same H H' → AtsX H' l vs → Q vs H') → ta σ H Q
def MkI (te : TE) (i : Int) : Prop := ∀ (σ : L2.St) (H : Hp) (Q : VK), Q (.int i) H → te σ H Q
theorem same_refl (H : Hp) : Same H H := fun _ _ e => e
theorem mk_var : Mk (tVar 1) oneD := fun σ H Q ⟨v, e, h⟩ q => ⟨v, e, q v H (same_refl H) h⟩
theorem mk_i {te : TE} {i : Int} (h : MkI te i) : Mk te (.int i) := fun σ H Q _ q => h σ H Q (q _ H (same_refl H) rfl)
theorem mk_non : Mk (tC .non) .non := fun σ H Q _ q => q _ H (same_refl H) rfl
theorem mk_bl {b : Bool} : Mk (tC (.bl b)) (.bl b) := fun σ H Q _ q => q _ H (same_refl H) rfl
theorem mk_str {z : Str} (h : z.length ≤ 1000) : Mk (tC (.str z)) (.str z) := fun σ H Q _ q => q _ H (same_refl H) ⟨rfl, h⟩
theorem mk_mul {z : Str} {n : Nat} (h1 : (repS z n).length ≤ 1000) (h2 : 2 ≤ n) (h3 : n ≤ 1000) (h4 : 0 < z.length) (h5 : z.length ≤ 1000) : Mk (tOp rMulS (tC (.str z)) (tC (.int (n : Int)))) (.str (repS z n)) := fun σ H Q _ q => ⟨z, n, rfl, rfl, h2, h3, h4, h5, q _ H (same_refl H) ⟨rfl, h1⟩⟩
theorem mi_c {i : Int} : MkI (tC (.int i)) i := fun σ H Q q => q
theorem mi_neg {te : TE} {i : Int} (h : MkI te i) : MkI (tUn (rU fun i => V.int (-i)) te) (-i) := fun σ H Q q => h σ H _ ⟨_, rfl, q⟩
theorem mi_pow {ta tb : TE} {i j : Int} (h : MkI ta i) (k : MkI tb j) (c : CPow i j) : MkI (tOp (rI CPow fun i j => V.int (i ^ j.toNat)) ta tb) (i ^ j.toNat) := fun σ H Q q => h σ H _ (k σ H _ ⟨_, _, rfl, rfl, c, q⟩)
theorem mi_add {ta tb : TE} {i j : Int} (h : MkI ta i) (k : MkI tb j) : MkI (tOp (rI0 fun i j => V.int (i + j)) ta tb) (i + j) := fun σ H Q q => h σ H _ (k σ H _ ⟨_, _, rfl, rfl, q⟩)
theorem mi_sub {ta tb : TE} {i j : Int} (h : MkI ta i) (k : MkI tb j) : MkI (tOp (rI0 fun i j => V.int (i - j)) ta tb) (i - j) := fun σ H Q q => h σ H _ (k σ H _ ⟨_, _, rfl, rfl, q⟩)
theorem mks_nil : Mks tNil [] := fun σ H Q _ q => q [] H (same_refl H) rfl
theorem mks_cons {te : TE} {ta : TA} {k : Dd} {l : List Dd} (h : Mk te k) (hs : Mks ta l) : Mks (tCons te ta) (k :: l) := fun σ H Q ⟨v, e, hv⟩ q =>
  h σ H _ ⟨v, e, hv⟩ fun x H1 s1 a1 => hs σ H1 _ ⟨v, e, hv.same s1⟩ fun xs H2 s2 a2 => q (x :: xs) H2 (sameT s1 s2) (ats_cons (a1.same s2) a2)
theorem mk_tup {ta : TA} {l : List Dd} (h : Mks ta l) (hl : l.length ≤ 1000) : Mk (tTup ta) (.tup l) := fun σ H Q s q => h σ H _ s fun xs H1 s1 a1 => ⟨by rw [ats_len a1]; exact Nat.le_trans hl (by decide), fun p hp =>
  q _ _ (sameT s1 (same_new hp _)) (at_tup upd_same (a1.same (same_new hp _)))⟩
theorem mk_lst {ta : TA} {l : List Dd} (h : Mks ta l) (hl : l.length ≤ 1000) : Mk (tLst ta) (.lst l) := fun σ H Q s q => h σ H _ s fun xs H1 s1 a1 => ⟨by rw [ats_len a1]; exact Nat.le_trans hl (by decide), fun p hp =>
  q _ _ (sameT s1 (same_new hp _)) ⟨p, xs, rfl, by unfold Ex; rw [upd_same]; exact fun z => (by cases z), upd_same, a1.same (same_new hp _)⟩⟩
theorem run_one {rest : TS} {D : Ends} {σ : L2.St} {H : Hp} (q : ∀ o H', Same H H' → AtX H' oneD (.ref o) → rest D (σ.set 1 (some (.ref o))) H') : tSeq (tAsg (tTup (tCons (tC (.str "num")) (tCons (tC (.int 1)) tNil))) (gName 1)) rest D σ H :=
  ⟨by show 2 ≤ sizeLine; decide, fun o ho => q o _ (same_new ho _) (at_tup upd_same (ats_cons (at_str' (by decide +kernel)) (ats_cons at_int' ats_nil)))⟩
theorem run_asgL {ta : TA} {l : List Dd} {rest : TS} {D : Ends} {σ : L2.St} {H : Hp} {i : Nat} (h : Mks ta l) (hl : l.length ≤ 1000) (hs : ∃ v, σ[1]? = some (some v) ∧ AtX H oneD v)
    (q : ∀ p xs H', Same H H' → H' p = some (.lst xs) → AtsX H' l xs → rest D (σ.set i (some (.ref p))) H') : tSeq (tAsg (tLst ta) (gName i)) rest D σ H :=
  h σ H _ hs fun xs H1 s1 a1 => ⟨by rw [ats_len a1]; exact Nat.le_trans hl (by decide), fun p hp => q p xs _ (sameT s1 (same_new hp _)) upd_same (a1.same (same_new hp _))⟩
theorem run_catL {ta : TA} {l acc : List Dd} {rest : TS} {D : Ends} {σ : L2.St} {H : Hp} {i : Nat} {p : Addr} {xs : List V} (h : Mks ta l) (hl : acc.length + l.length ≤ 1000) (hs : ∃ v, σ[1]? = some (some v) ∧ AtX H oneD v) (e : σ[i]? = some (some (.ref p))) (hp : H p = some (.lst xs)) (ha : AtsX H acc xs)
    (q : ∀ p xs H', Same H H' → H' p = some (.lst xs) → AtsX H' (acc ++ l) xs → rest D (σ.set i (some (.ref p))) H') : tSeq (tAsg (tOp rCat (tVar i) (tLst ta)) (gName i)) rest D σ H :=
  ⟨_, e, h σ H _ hs fun ys H1 s1 a1 => ⟨by rw [ats_len a1]; exact Nat.le_trans (Nat.le_trans (Nat.le_add_left _ _) hl) (by decide), fun r hr =>
    ⟨p, r, xs, ys, rfl, rfl, same_new hr _ _ _ (s1 _ _ hp), upd_same, by rw [ats_len a1, ats_len ha]; exact Nat.le_trans hl (by decide), fun t ht =>
      q t _ _ (sameT s1 (sameT (same_new hr _) (same_new ht _))) upd_same (ats_app (AtsX.same (sameT s1 (sameT (same_new hr _) (same_new ht _))) ha) (AtsX.same (sameT (same_new hr _) (same_new ht _)) a1))⟩⟩⟩
theorem ats_pick {H : Hp} {l : List Dd} {xs : List V} {i : Int} (h : AtsX H l xs) (h0 : 0 ≤ i) (h1 : i < (xs.length : Int)) : ∃ v k, atI xs i = some v ∧ k ∈ l ∧ AtX H k v := by
  have hk : i.toNat < xs.length := by omega
  have e : xs[i.toNat]? = some xs[i.toNat] := List.getElem?_eq_getElem hk
  obtain ⟨k, hk2, hat⟩ := ats_get h e
  refine ⟨xs[i.toNat], k, ?_, List.mem_of_getElem? hk2, hat⟩
  have q : atI xs ((i.toNat : Nat) : Int) = some xs[i.toNat] := atI_nat e
  rw [show ((i.toNat : Nat) : Int) = i by omega] at q
  exact q
def goodD1 : List Dd := [.tup [.str "num", .int ((10) ^ (Int.toNat (15)))], .tup [.str "num", .int (-((10) ^ (Int.toNat (15))))], .tup [.str "var", .str (repS "a" 80)], .tup [.str "con", .int (1000), .tup []], .tup [.str "note", .int ((10) ^ (Int.toNat (12))), oneD]]
def goodD2 : List Dd := [.tup [.str "case", oneD, .tup [], .non], .tup [.str "pick", oneD, .tup [], .tup [.str "x", oneD]], .tup [.str "case", oneD, .tup [.tup [.int (0), .tup [.str "a", .str "b"], oneD], .tup [.int (0), .tup [], oneD]], .non]]
def goodD3 : List Dd := [.tup [.str "let", .tup [.tup [.str "a", oneD], .tup [.str "b", oneD]], oneD], .tup [.str "var", .str "!~"], .tup [.str "note", .int (0), oneD], .tup [.str "con", .int (0), .tup [oneD, oneD, oneD, oneD]]]
def goodD : List Dd := goodD1 ++ goodD2 ++ goodD3
section
variable {P : Program} {w : World} {K : PySem.W.Frag} {mg : Str → Option Value} {base : Heap}
abbrev sGood : Stmt := topS 56
theorem scGood : FnScope ["draw", "one", "rows"] ["draw"] (defScope sGood) := ⟨rfl, rfl, rfl, by decide +kernel, rfl, by decide +kernel, by decide +kernel⟩
def spGood : Sp := fun vs H Q _ => ∃ n : Int, vs = [.int n] ∧ ∀ (v : V) (k : Dd) (H' : Hp), Same H H' → AtX H' k v → k ∈ goodD → Q v H'
theorem c_good {f : Addr} {fd : FuncData} (T : TxtR mg) (F : Fun K "_law_good" "_law_good" sGood f fd) (b : Binds K fd ["draw"] []) (hm : mg "_law_good" = some (.ref f)) : C8.Cal P w K mg base 1 "_law_good" spGood [] := by
  refine cal_of F hm b scGood (fun vs H Q E h => ?_) (fun cdv A outer s H vs Q E hr h => ?_)
  · obtain ⟨n, rfl, _⟩ := h
    rfl
  obtain ⟨n, rfl, q⟩ := h
  refine ⟨_, (pss_cons (ps_set (i := 1) scGood.nd rfl (Or.inl rfl) (pe_tup (pa_cons pe_str (pa_cons pe_int pa_nil))))
    (pss_cons (ps_set (i := 2) scGood.nd rfl (Or.inl rfl) (pe_lst (pa_cons (pe_tup (pa_cons pe_str (pa_cons (pe_op op_pow pe_int pe_int) pa_nil))) (pa_cons (pe_tup (pa_cons pe_str (pa_cons (pe_un un_neg (pe_op op_pow pe_int pe_int)) pa_nil))) (pa_cons (pe_tup (pa_cons pe_str (pa_cons (pe_op op_mulS pe_str pe_int) pa_nil))) (pa_cons (pe_tup (pa_cons pe_str (pa_cons pe_int (pa_cons (pe_tup pa_nil) pa_nil)))) (pa_cons (pe_tup (pa_cons pe_str (pa_cons (pe_op op_pow pe_int pe_int) (pa_cons (pv 1) pa_nil)))) pa_nil)))))))
    (pss_cons (ps_set (i := 2) scGood.nd rfl (Or.inl rfl) (pe_op op_cat (pv 2) (pe_lst (pa_cons (pe_tup (pa_cons pe_str (pa_cons (pv 1) (pa_cons (pe_tup pa_nil) (pa_cons pe_non pa_nil))))) (pa_cons (pe_tup (pa_cons pe_str (pa_cons (pv 1) (pa_cons (pe_tup pa_nil) (pa_cons (pe_tup (pa_cons pe_str (pa_cons (pv 1) pa_nil))) pa_nil))))) (pa_cons (pe_tup (pa_cons pe_str (pa_cons (pv 1) (pa_cons (pe_tup (pa_cons (pe_tup (pa_cons pe_int (pa_cons (pe_tup (pa_cons pe_str (pa_cons pe_str pa_nil))) (pa_cons (pv 1) pa_nil)))) (pa_cons (pe_tup (pa_cons pe_int (pa_cons (pe_tup pa_nil) (pa_cons (pv 1) pa_nil)))) pa_nil))) (pa_cons pe_non pa_nil))))) pa_nil))))))
    (pss_cons (ps_set (i := 2) scGood.nd rfl (Or.inl rfl) (pe_op op_cat (pv 2) (pe_lst (pa_cons (pe_tup (pa_cons pe_str (pa_cons (pe_tup (pa_cons (pe_tup (pa_cons pe_str (pa_cons (pv 1) pa_nil))) (pa_cons (pe_tup (pa_cons pe_str (pa_cons (pv 1) pa_nil))) pa_nil))) (pa_cons (pv 1) pa_nil)))) (pa_cons (pe_tup (pa_cons pe_str (pa_cons pe_str pa_nil))) (pa_cons (pe_tup (pa_cons pe_str (pa_cons pe_int (pa_cons (pv 1) pa_nil)))) (pa_cons (pe_tup (pa_cons pe_str (pa_cons pe_int (pa_cons (pe_tup (pa_cons (pv 1) (pa_cons (pv 1) (pa_cons (pv 1) (pa_cons (pv 1) pa_nil))))) pa_nil)))) pa_nil)))))))
    (pss_one (ps_ret (pe_ix ix_list (pv 2) (pe_op op_mod (pv 0) (pe_callB call_len_seq rfl T.zlen PySem.boot_len (pa_cons (pv 2) pa_nil))) (fun _ _ => rfl)))))))), ?_⟩
  refine run_one fun o H0 s0 o0 => ?_
  refine run_asgL (l := goodD1) (mks_cons (mk_tup (mks_cons (mk_str (by decide +kernel)) (mks_cons (mk_i (mi_pow mi_c mi_c (by unfold CPow; decide))) mks_nil)) (by decide)) (mks_cons (mk_tup (mks_cons (mk_str (by decide +kernel)) (mks_cons (mk_i (mi_neg (mi_pow mi_c mi_c (by unfold CPow; decide)))) mks_nil)) (by decide)) (mks_cons (mk_tup (mks_cons (mk_str (by decide +kernel)) (mks_cons (mk_mul (n := 80) (by decide +kernel) (by decide) (by decide) (by decide +kernel) (by decide +kernel)) mks_nil)) (by decide)) (mks_cons (mk_tup (mks_cons (mk_str (by decide +kernel)) (mks_cons (mk_i mi_c) (mks_cons (mk_tup mks_nil (by decide)) mks_nil))) (by decide)) (mks_cons (mk_tup (mks_cons (mk_str (by decide +kernel)) (mks_cons (mk_i (mi_pow mi_c mi_c (by unfold CPow; decide))) (mks_cons mk_var mks_nil))) (by decide)) mks_nil))))) (by decide) ⟨_, rfl, o0⟩ fun p1 xs1 H1 t1 e1 a1 => ?_
  have o1 := o0.same t1
  have s1 := sameT s0 t1
  refine run_catL (l := goodD2) (acc := goodD1) (mks_cons (mk_tup (mks_cons (mk_str (by decide +kernel)) (mks_cons mk_var (mks_cons (mk_tup mks_nil (by decide)) (mks_cons mk_non mks_nil)))) (by decide)) (mks_cons (mk_tup (mks_cons (mk_str (by decide +kernel)) (mks_cons mk_var (mks_cons (mk_tup mks_nil (by decide)) (mks_cons (mk_tup (mks_cons (mk_str (by decide +kernel)) (mks_cons mk_var mks_nil)) (by decide)) mks_nil)))) (by decide)) (mks_cons (mk_tup (mks_cons (mk_str (by decide +kernel)) (mks_cons mk_var (mks_cons (mk_tup (mks_cons (mk_tup (mks_cons (mk_i mi_c) (mks_cons (mk_tup (mks_cons (mk_str (by decide +kernel)) (mks_cons (mk_str (by decide +kernel)) mks_nil)) (by decide)) (mks_cons mk_var mks_nil))) (by decide)) (mks_cons (mk_tup (mks_cons (mk_i mi_c) (mks_cons (mk_tup mks_nil (by decide)) (mks_cons mk_var mks_nil))) (by decide)) mks_nil)) (by decide)) (mks_cons mk_non mks_nil)))) (by decide)) mks_nil))) (by decide) ⟨_, rfl, o1⟩ rfl e1 a1 fun p2 xs2 H2 t2 e2 a2 => ?_
  have o2 := o1.same t2
  have s2 := sameT s1 t2
  refine run_catL (l := goodD3) (acc := goodD1 ++ goodD2) (mks_cons (mk_tup (mks_cons (mk_str (by decide +kernel)) (mks_cons (mk_tup (mks_cons (mk_tup (mks_cons (mk_str (by decide +kernel)) (mks_cons mk_var mks_nil)) (by decide)) (mks_cons (mk_tup (mks_cons (mk_str (by decide +kernel)) (mks_cons mk_var mks_nil)) (by decide)) mks_nil)) (by decide)) (mks_cons mk_var mks_nil))) (by decide)) (mks_cons (mk_tup (mks_cons (mk_str (by decide +kernel)) (mks_cons (mk_str (by decide +kernel)) mks_nil)) (by decide)) (mks_cons (mk_tup (mks_cons (mk_str (by decide +kernel)) (mks_cons (mk_i mi_c) (mks_cons mk_var mks_nil))) (by decide)) (mks_cons (mk_tup (mks_cons (mk_str (by decide +kernel)) (mks_cons (mk_i mi_c) (mks_cons (mk_tup (mks_cons mk_var (mks_cons mk_var (mks_cons mk_var (mks_cons mk_var mks_nil)))) (by decide)) mks_nil))) (by decide)) mks_nil)))) (by decide) ⟨_, rfl, o2⟩ rfl e2 a2 fun p3 xs3 H3 t3 e3 a3 => ?_
  have o3 := o2.same t3
  have s3 := sameT s2 t3
  have hlen : (xs3.length : Int) = ((goodD.length : Nat) : Int) := by rw [ats_len a3]; rfl
  have hpos : (0 : Int) < (xs3.length : Int) := by rw [hlen]; decide
  obtain ⟨v, k, ev, hk, hv⟩ := ats_pick a3 (i := n % (xs3.length : Int)) (Int.emod_nonneg _ (by omega)) (Int.emod_lt_of_pos _ hpos)
  refine ⟨_, rfl, _, rfl, _, rfl, p3, _, rfl, .inl (SqL.of e3), _, _, rfl, rfl, hpos, p3, _, _, _, rfl, rfl, SqL.of e3, ev, ?_⟩
  exact q v k _ s3 hv hk
end
end Toy

set_option Elab.async false
set_option linter.all false
set_option maxRecDepth 100000
set_option maxHeartbeats 4000000
/-! Part O: rows of things that are no terms. -/
namespace Toy
open PySem L2
open PyProof.Rows (envOfC)
def badD1 : List Dd := [.tup [.str "num", .int (((10) ^ (Int.toNat (15))) + (1))], .tup [.str "num", .int ((-((10) ^ (Int.toNat (15)))) - (1))], .tup [.str "num", .bl true], .tup [.str "num"], .tup [.str "num", .int (1), .int (1)], .tup [.str "num", .str "1"], .tup [.str "var", .str ""]]
def badD2 : List Dd := [.tup [.str "var", .str (repS "a" 81)], .tup [.str "var", .str "a b"], .tup [.str "var", .str "a\nb"], .tup [.str "var", .int (1)], .tup [.str "con", .int (1001), .tup []], .tup [.str "con", .int (-(1)), .tup []]]
def badD3 : List Dd := [.tup [.str "con", .int (1), .lst [oneD]], .tup [.str "con", .int (1), .tup [.int (1)]], .tup [.str "note", .int (((10) ^ (Int.toNat (12))) + (1)), oneD], .tup [.str "note", .int (-(1)), oneD], .tup [.str "note", .bl true, oneD]]
def badD4 : List Dd := [.tup [.str "app", oneD], .tup [.str "app", oneD, oneD, oneD], .tup [.str "lam", .str "", oneD], .tup [.str "lam", .str "a", .str "b"], .tup [.str "let", .tup [], oneD], .lst [.str "num", .int (1)]]
def badD5 : List Dd := [.tup [.str "let", .tup [.tup [.str "a", oneD], .tup [.str "a", oneD]], oneD], .tup [.str "let", .tup [.tup [.str "a", oneD, oneD]], oneD], .tup [.str "seq", .str "a", oneD], .tup [.str "text", oneD]]
def badD6 : List Dd := [.tup [.str "case", oneD, .tup [.tup [.int (0), .tup [.str "a", .str "a"], oneD]], .non], .tup [.str "case", oneD, .tup [.tup [.int (0), .tup [.str "a"]]], .non], .tup [.str "case", oneD, .tup [], oneD]]
def badD7 : List Dd := [.tup [.str "pick", oneD, .tup [.tup [.int (1), oneD], .tup [.int (1), oneD]], .non], .tup [.str "pick", oneD, .tup [.tup [.bl true, oneD]], .non], .tup [.str "pick", oneD, .tup []], .tup [.str "prim", .str "**", oneD, oneD]]
def badD8 : List Dd := [.tup [.str "prim", .str "/", oneD, oneD], .tup [.str "prim", .str "+", oneD], .tup [], .non, .int (3), .str "a", .tup [.str "case", oneD, .tup [.tup [.int (0), .lst [], oneD]], .non], .tup [.str "pick", oneD, .tup [], .tup [.str "", oneD]]]
def badD : List Dd := badD1 ++ badD2 ++ badD3 ++ badD4 ++ badD5 ++ badD6 ++ badD7 ++ badD8
section
variable {P : Program} {w : World} {K : PySem.W.Frag} {mg : Str → Option Value} {base : Heap}
abbrev sBad : Stmt := topS 57
theorem scBad : FnScope ["draw", "one", "rows"] ["draw"] (defScope sBad) := ⟨rfl, rfl, rfl, by decide +kernel, rfl, by decide +kernel, by decide +kernel⟩
def spBad : Sp := fun vs H Q _ => ∃ n : Int, vs = [.int n] ∧ ∀ (v : V) (k : Dd) (H' : Hp), Same H H' → AtX H' k v → k ∈ badD → Q v H'
theorem c_bad {f : Addr} {fd : FuncData} (T : TxtR mg) (F : Fun K "_law_bad" "_law_bad" sBad f fd) (b : Binds K fd ["draw"] []) (hm : mg "_law_bad" = some (.ref f)) : C8.Cal P w K mg base 1 "_law_bad" spBad [] := by
  refine cal_of F hm b scBad (fun vs H Q E h => ?_) (fun cdv A outer s H vs Q E hr h => ?_)
  · obtain ⟨n, rfl, _⟩ := h
    rfl
  obtain ⟨n, rfl, q⟩ := h
  refine ⟨_, (pss_cons (ps_set (i := 1) scBad.nd rfl (Or.inl rfl) (pe_tup (pa_cons pe_str (pa_cons pe_int pa_nil))))
    (pss_cons (ps_set (i := 2) scBad.nd rfl (Or.inl rfl) (pe_lst (pa_cons (pe_tup (pa_cons pe_str (pa_cons (pe_op op_add (pe_op op_pow pe_int pe_int) pe_int) pa_nil))) (pa_cons (pe_tup (pa_cons pe_str (pa_cons (pe_op op_sub (pe_un un_neg (pe_op op_pow pe_int pe_int)) pe_int) pa_nil))) (pa_cons (pe_tup (pa_cons pe_str (pa_cons pe_bl pa_nil))) (pa_cons (pe_tup (pa_cons pe_str pa_nil)) (pa_cons (pe_tup (pa_cons pe_str (pa_cons pe_int (pa_cons pe_int pa_nil)))) (pa_cons (pe_tup (pa_cons pe_str (pa_cons pe_str pa_nil))) (pa_cons (pe_tup (pa_cons pe_str (pa_cons pe_str pa_nil))) pa_nil)))))))))
    (pss_cons (ps_set (i := 2) scBad.nd rfl (Or.inl rfl) (pe_op op_cat (pv 2) (pe_lst (pa_cons (pe_tup (pa_cons pe_str (pa_cons (pe_op op_mulS pe_str pe_int) pa_nil))) (pa_cons (pe_tup (pa_cons pe_str (pa_cons pe_str pa_nil))) (pa_cons (pe_tup (pa_cons pe_str (pa_cons pe_str pa_nil))) (pa_cons (pe_tup (pa_cons pe_str (pa_cons pe_int pa_nil))) (pa_cons (pe_tup (pa_cons pe_str (pa_cons pe_int (pa_cons (pe_tup pa_nil) pa_nil)))) (pa_cons (pe_tup (pa_cons pe_str (pa_cons (pe_un un_neg pe_int) (pa_cons (pe_tup pa_nil) pa_nil)))) pa_nil)))))))))
    (pss_cons (ps_set (i := 2) scBad.nd rfl (Or.inl rfl) (pe_op op_cat (pv 2) (pe_lst (pa_cons (pe_tup (pa_cons pe_str (pa_cons pe_int (pa_cons (pe_lst (pa_cons (pv 1) pa_nil)) pa_nil)))) (pa_cons (pe_tup (pa_cons pe_str (pa_cons pe_int (pa_cons (pe_tup (pa_cons pe_int pa_nil)) pa_nil)))) (pa_cons (pe_tup (pa_cons pe_str (pa_cons (pe_op op_add (pe_op op_pow pe_int pe_int) pe_int) (pa_cons (pv 1) pa_nil)))) (pa_cons (pe_tup (pa_cons pe_str (pa_cons (pe_un un_neg pe_int) (pa_cons (pv 1) pa_nil)))) (pa_cons (pe_tup (pa_cons pe_str (pa_cons pe_bl (pa_cons (pv 1) pa_nil)))) pa_nil))))))))
    (pss_cons (ps_set (i := 2) scBad.nd rfl (Or.inl rfl) (pe_op op_cat (pv 2) (pe_lst (pa_cons (pe_tup (pa_cons pe_str (pa_cons (pv 1) pa_nil))) (pa_cons (pe_tup (pa_cons pe_str (pa_cons (pv 1) (pa_cons (pv 1) (pa_cons (pv 1) pa_nil))))) (pa_cons (pe_tup (pa_cons pe_str (pa_cons pe_str (pa_cons (pv 1) pa_nil)))) (pa_cons (pe_tup (pa_strs (zs := ["lam", "a", "b"]) rfl)) (pa_cons (pe_tup (pa_cons pe_str (pa_cons (pe_tup pa_nil) (pa_cons (pv 1) pa_nil)))) (pa_cons (pe_lst (pa_cons pe_str (pa_cons pe_int pa_nil))) pa_nil)))))))))
    (pss_cons (ps_set (i := 2) scBad.nd rfl (Or.inl rfl) (pe_op op_cat (pv 2) (pe_lst (pa_cons (pe_tup (pa_cons pe_str (pa_cons (pe_tup (pa_cons (pe_tup (pa_cons pe_str (pa_cons (pv 1) pa_nil))) (pa_cons (pe_tup (pa_cons pe_str (pa_cons (pv 1) pa_nil))) pa_nil))) (pa_cons (pv 1) pa_nil)))) (pa_cons (pe_tup (pa_cons pe_str (pa_cons (pe_tup (pa_cons (pe_tup (pa_cons pe_str (pa_cons (pv 1) (pa_cons (pv 1) pa_nil)))) pa_nil)) (pa_cons (pv 1) pa_nil)))) (pa_cons (pe_tup (pa_cons pe_str (pa_cons pe_str (pa_cons (pv 1) pa_nil)))) (pa_cons (pe_tup (pa_cons pe_str (pa_cons (pv 1) pa_nil))) pa_nil)))))))
    (pss_cons (ps_set (i := 2) scBad.nd rfl (Or.inl rfl) (pe_op op_cat (pv 2) (pe_lst (pa_cons (pe_tup (pa_cons pe_str (pa_cons (pv 1) (pa_cons (pe_tup (pa_cons (pe_tup (pa_cons pe_int (pa_cons (pe_tup (pa_cons pe_str (pa_cons pe_str pa_nil))) (pa_cons (pv 1) pa_nil)))) pa_nil)) (pa_cons pe_non pa_nil))))) (pa_cons (pe_tup (pa_cons pe_str (pa_cons (pv 1) (pa_cons (pe_tup (pa_cons (pe_tup (pa_cons pe_int (pa_cons (pe_tup (pa_cons pe_str pa_nil)) pa_nil))) pa_nil)) (pa_cons pe_non pa_nil))))) (pa_cons (pe_tup (pa_cons pe_str (pa_cons (pv 1) (pa_cons (pe_tup pa_nil) (pa_cons (pv 1) pa_nil))))) pa_nil))))))
    (pss_cons (ps_set (i := 2) scBad.nd rfl (Or.inl rfl) (pe_op op_cat (pv 2) (pe_lst (pa_cons (pe_tup (pa_cons pe_str (pa_cons (pv 1) (pa_cons (pe_tup (pa_cons (pe_tup (pa_cons pe_int (pa_cons (pv 1) pa_nil))) (pa_cons (pe_tup (pa_cons pe_int (pa_cons (pv 1) pa_nil))) pa_nil))) (pa_cons pe_non pa_nil))))) (pa_cons (pe_tup (pa_cons pe_str (pa_cons (pv 1) (pa_cons (pe_tup (pa_cons (pe_tup (pa_cons pe_bl (pa_cons (pv 1) pa_nil))) pa_nil)) (pa_cons pe_non pa_nil))))) (pa_cons (pe_tup (pa_cons pe_str (pa_cons (pv 1) (pa_cons (pe_tup pa_nil) pa_nil)))) (pa_cons (pe_tup (pa_cons pe_str (pa_cons pe_str (pa_cons (pv 1) (pa_cons (pv 1) pa_nil))))) pa_nil)))))))
    (pss_cons (ps_set (i := 2) scBad.nd rfl (Or.inl rfl) (pe_op op_cat (pv 2) (pe_lst (pa_cons (pe_tup (pa_cons pe_str (pa_cons pe_str (pa_cons (pv 1) (pa_cons (pv 1) pa_nil))))) (pa_cons (pe_tup (pa_cons pe_str (pa_cons pe_str (pa_cons (pv 1) pa_nil)))) (pa_cons (pe_tup pa_nil) (pa_cons pe_non (pa_cons pe_int (pa_cons pe_str (pa_cons (pe_tup (pa_cons pe_str (pa_cons (pv 1) (pa_cons (pe_tup (pa_cons (pe_tup (pa_cons pe_int (pa_cons (pe_lst pa_nil) (pa_cons (pv 1) pa_nil)))) pa_nil)) (pa_cons pe_non pa_nil))))) (pa_cons (pe_tup (pa_cons pe_str (pa_cons (pv 1) (pa_cons (pe_tup pa_nil) (pa_cons (pe_tup (pa_cons pe_str (pa_cons (pv 1) pa_nil))) pa_nil))))) pa_nil)))))))))))
    (pss_one (ps_ret (pe_ix ix_list (pv 2) (pe_op op_mod (pv 0) (pe_callB call_len_seq rfl T.zlen PySem.boot_len (pa_cons (pv 2) pa_nil))) (fun _ _ => rfl))))))))))))), ?_⟩
  refine run_one fun o H0 s0 o0 => ?_
  refine run_asgL (l := badD1) (mks_cons (mk_tup (mks_cons (mk_str (by decide +kernel)) (mks_cons (mk_i (mi_add (mi_pow mi_c mi_c (by unfold CPow; decide)) mi_c)) mks_nil)) (by decide)) (mks_cons (mk_tup (mks_cons (mk_str (by decide +kernel)) (mks_cons (mk_i (mi_sub (mi_neg (mi_pow mi_c mi_c (by unfold CPow; decide))) mi_c)) mks_nil)) (by decide)) (mks_cons (mk_tup (mks_cons (mk_str (by decide +kernel)) (mks_cons mk_bl mks_nil)) (by decide)) (mks_cons (mk_tup (mks_cons (mk_str (by decide +kernel)) mks_nil) (by decide)) (mks_cons (mk_tup (mks_cons (mk_str (by decide +kernel)) (mks_cons (mk_i mi_c) (mks_cons (mk_i mi_c) mks_nil))) (by decide)) (mks_cons (mk_tup (mks_cons (mk_str (by decide +kernel)) (mks_cons (mk_str (by decide +kernel)) mks_nil)) (by decide)) (mks_cons (mk_tup (mks_cons (mk_str (by decide +kernel)) (mks_cons (mk_str (by decide +kernel)) mks_nil)) (by decide)) mks_nil))))))) (by decide) ⟨_, rfl, o0⟩ fun p1 xs1 H1 t1 e1 a1 => ?_
  have o1 := o0.same t1
  have s1 := sameT s0 t1
  refine run_catL (l := badD2) (acc := badD1) (mks_cons (mk_tup (mks_cons (mk_str (by decide +kernel)) (mks_cons (mk_mul (n := 81) (by decide +kernel) (by decide) (by decide) (by decide +kernel) (by decide +kernel)) mks_nil)) (by decide)) (mks_cons (mk_tup (mks_cons (mk_str (by decide +kernel)) (mks_cons (mk_str (by decide +kernel)) mks_nil)) (by decide)) (mks_cons (mk_tup (mks_cons (mk_str (by decide +kernel)) (mks_cons (mk_str (by decide +kernel)) mks_nil)) (by decide)) (mks_cons (mk_tup (mks_cons (mk_str (by decide +kernel)) (mks_cons (mk_i mi_c) mks_nil)) (by decide)) (mks_cons (mk_tup (mks_cons (mk_str (by decide +kernel)) (mks_cons (mk_i mi_c) (mks_cons (mk_tup mks_nil (by decide)) mks_nil))) (by decide)) (mks_cons (mk_tup (mks_cons (mk_str (by decide +kernel)) (mks_cons (mk_i (mi_neg mi_c)) (mks_cons (mk_tup mks_nil (by decide)) mks_nil))) (by decide)) mks_nil)))))) (by decide) ⟨_, rfl, o1⟩ rfl e1 a1 fun p2 xs2 H2 t2 e2 a2 => ?_
  have o2 := o1.same t2
  have s2 := sameT s1 t2
  refine run_catL (l := badD3) (acc := badD1 ++ badD2) (mks_cons (mk_tup (mks_cons (mk_str (by decide +kernel)) (mks_cons (mk_i mi_c) (mks_cons (mk_lst (mks_cons mk_var mks_nil) (by decide)) mks_nil))) (by decide)) (mks_cons (mk_tup (mks_cons (mk_str (by decide +kernel)) (mks_cons (mk_i mi_c) (mks_cons (mk_tup (mks_cons (mk_i mi_c) mks_nil) (by decide)) mks_nil))) (by decide)) (mks_cons (mk_tup (mks_cons (mk_str (by decide +kernel)) (mks_cons (mk_i (mi_add (mi_pow mi_c mi_c (by unfold CPow; decide)) mi_c)) (mks_cons mk_var mks_nil))) (by decide)) (mks_cons (mk_tup (mks_cons (mk_str (by decide +kernel)) (mks_cons (mk_i (mi_neg mi_c)) (mks_cons mk_var mks_nil))) (by decide)) (mks_cons (mk_tup (mks_cons (mk_str (by decide +kernel)) (mks_cons mk_bl (mks_cons mk_var mks_nil))) (by decide)) mks_nil))))) (by decide) ⟨_, rfl, o2⟩ rfl e2 a2 fun p3 xs3 H3 t3 e3 a3 => ?_
  have o3 := o2.same t3
  have s3 := sameT s2 t3
  refine run_catL (l := badD4) (acc := badD1 ++ badD2 ++ badD3) (mks_cons (mk_tup (mks_cons (mk_str (by decide +kernel)) (mks_cons mk_var mks_nil)) (by decide)) (mks_cons (mk_tup (mks_cons (mk_str (by decide +kernel)) (mks_cons mk_var (mks_cons mk_var (mks_cons mk_var mks_nil)))) (by decide)) (mks_cons (mk_tup (mks_cons (mk_str (by decide +kernel)) (mks_cons (mk_str (by decide +kernel)) (mks_cons mk_var mks_nil))) (by decide)) (mks_cons (mk_tup (mks_cons (mk_str (by decide +kernel)) (mks_cons (mk_str (by decide +kernel)) (mks_cons (mk_str (by decide +kernel)) mks_nil))) (by decide)) (mks_cons (mk_tup (mks_cons (mk_str (by decide +kernel)) (mks_cons (mk_tup mks_nil (by decide)) (mks_cons mk_var mks_nil))) (by decide)) (mks_cons (mk_lst (mks_cons (mk_str (by decide +kernel)) (mks_cons (mk_i mi_c) mks_nil)) (by decide)) mks_nil)))))) (by decide) ⟨_, rfl, o3⟩ rfl e3 a3 fun p4 xs4 H4 t4 e4 a4 => ?_
  have o4 := o3.same t4
  have s4 := sameT s3 t4
  refine run_catL (l := badD5) (acc := badD1 ++ badD2 ++ badD3 ++ badD4) (mks_cons (mk_tup (mks_cons (mk_str (by decide +kernel)) (mks_cons (mk_tup (mks_cons (mk_tup (mks_cons (mk_str (by decide +kernel)) (mks_cons mk_var mks_nil)) (by decide)) (mks_cons (mk_tup (mks_cons (mk_str (by decide +kernel)) (mks_cons mk_var mks_nil)) (by decide)) mks_nil)) (by decide)) (mks_cons mk_var mks_nil))) (by decide)) (mks_cons (mk_tup (mks_cons (mk_str (by decide +kernel)) (mks_cons (mk_tup (mks_cons (mk_tup (mks_cons (mk_str (by decide +kernel)) (mks_cons mk_var (mks_cons mk_var mks_nil))) (by decide)) mks_nil) (by decide)) (mks_cons mk_var mks_nil))) (by decide)) (mks_cons (mk_tup (mks_cons (mk_str (by decide +kernel)) (mks_cons (mk_str (by decide +kernel)) (mks_cons mk_var mks_nil))) (by decide)) (mks_cons (mk_tup (mks_cons (mk_str (by decide +kernel)) (mks_cons mk_var mks_nil)) (by decide)) mks_nil)))) (by decide) ⟨_, rfl, o4⟩ rfl e4 a4 fun p5 xs5 H5 t5 e5 a5 => ?_
  have o5 := o4.same t5
  have s5 := sameT s4 t5
  refine run_catL (l := badD6) (acc := badD1 ++ badD2 ++ badD3 ++ badD4 ++ badD5) (mks_cons (mk_tup (mks_cons (mk_str (by decide +kernel)) (mks_cons mk_var (mks_cons (mk_tup (mks_cons (mk_tup (mks_cons (mk_i mi_c) (mks_cons (mk_tup (mks_cons (mk_str (by decide +kernel)) (mks_cons (mk_str (by decide +kernel)) mks_nil)) (by decide)) (mks_cons mk_var mks_nil))) (by decide)) mks_nil) (by decide)) (mks_cons mk_non mks_nil)))) (by decide)) (mks_cons (mk_tup (mks_cons (mk_str (by decide +kernel)) (mks_cons mk_var (mks_cons (mk_tup (mks_cons (mk_tup (mks_cons (mk_i mi_c) (mks_cons (mk_tup (mks_cons (mk_str (by decide +kernel)) mks_nil) (by decide)) mks_nil)) (by decide)) mks_nil) (by decide)) (mks_cons mk_non mks_nil)))) (by decide)) (mks_cons (mk_tup (mks_cons (mk_str (by decide +kernel)) (mks_cons mk_var (mks_cons (mk_tup mks_nil (by decide)) (mks_cons mk_var mks_nil)))) (by decide)) mks_nil))) (by decide) ⟨_, rfl, o5⟩ rfl e5 a5 fun p6 xs6 H6 t6 e6 a6 => ?_
  have o6 := o5.same t6
  have s6 := sameT s5 t6
  refine run_catL (l := badD7) (acc := badD1 ++ badD2 ++ badD3 ++ badD4 ++ badD5 ++ badD6) (mks_cons (mk_tup (mks_cons (mk_str (by decide +kernel)) (mks_cons mk_var (mks_cons (mk_tup (mks_cons (mk_tup (mks_cons (mk_i mi_c) (mks_cons mk_var mks_nil)) (by decide)) (mks_cons (mk_tup (mks_cons (mk_i mi_c) (mks_cons mk_var mks_nil)) (by decide)) mks_nil)) (by decide)) (mks_cons mk_non mks_nil)))) (by decide)) (mks_cons (mk_tup (mks_cons (mk_str (by decide +kernel)) (mks_cons mk_var (mks_cons (mk_tup (mks_cons (mk_tup (mks_cons mk_bl (mks_cons mk_var mks_nil)) (by decide)) mks_nil) (by decide)) (mks_cons mk_non mks_nil)))) (by decide)) (mks_cons (mk_tup (mks_cons (mk_str (by decide +kernel)) (mks_cons mk_var (mks_cons (mk_tup mks_nil (by decide)) mks_nil))) (by decide)) (mks_cons (mk_tup (mks_cons (mk_str (by decide +kernel)) (mks_cons (mk_str (by decide +kernel)) (mks_cons mk_var (mks_cons mk_var mks_nil)))) (by decide)) mks_nil)))) (by decide) ⟨_, rfl, o6⟩ rfl e6 a6 fun p7 xs7 H7 t7 e7 a7 => ?_
  have o7 := o6.same t7
  have s7 := sameT s6 t7
  refine run_catL (l := badD8) (acc := badD1 ++ badD2 ++ badD3 ++ badD4 ++ badD5 ++ badD6 ++ badD7) (mks_cons (mk_tup (mks_cons (mk_str (by decide +kernel)) (mks_cons (mk_str (by decide +kernel)) (mks_cons mk_var (mks_cons mk_var mks_nil)))) (by decide)) (mks_cons (mk_tup (mks_cons (mk_str (by decide +kernel)) (mks_cons (mk_str (by decide +kernel)) (mks_cons mk_var mks_nil))) (by decide)) (mks_cons (mk_tup mks_nil (by decide)) (mks_cons mk_non (mks_cons (mk_i mi_c) (mks_cons (mk_str (by decide +kernel)) (mks_cons (mk_tup (mks_cons (mk_str (by decide +kernel)) (mks_cons mk_var (mks_cons (mk_tup (mks_cons (mk_tup (mks_cons (mk_i mi_c) (mks_cons (mk_lst mks_nil (by decide)) (mks_cons mk_var mks_nil))) (by decide)) mks_nil) (by decide)) (mks_cons mk_non mks_nil)))) (by decide)) (mks_cons (mk_tup (mks_cons (mk_str (by decide +kernel)) (mks_cons mk_var (mks_cons (mk_tup mks_nil (by decide)) (mks_cons (mk_tup (mks_cons (mk_str (by decide +kernel)) (mks_cons mk_var mks_nil)) (by decide)) mks_nil)))) (by decide)) mks_nil)))))))) (by decide) ⟨_, rfl, o7⟩ rfl e7 a7 fun p8 xs8 H8 t8 e8 a8 => ?_
  have o8 := o7.same t8
  have s8 := sameT s7 t8
  have hlen : (xs8.length : Int) = ((badD.length : Nat) : Int) := by rw [ats_len a8]; rfl
  have hpos : (0 : Int) < (xs8.length : Int) := by rw [hlen]; decide
  obtain ⟨v, k, ev, hk, hv⟩ := ats_pick a8 (i := n % (xs8.length : Int)) (Int.emod_nonneg _ (by omega)) (Int.emod_lt_of_pos _ hpos)
  refine ⟨_, rfl, _, rfl, _, rfl, p8, _, rfl, .inl (SqL.of e8), _, _, rfl, rfl, hpos, p8, _, _, _, rfl, rfl, SqL.of e8, ev, ?_⟩
  exact q v k _ s8 hv hk
end
end Toy

set_option Elab.async false
set_option linter.all false
set_option maxRecDepth 100000
set_option maxHeartbeats 4000000
/-! Part P: which of them are terms. -/
namespace Toy
open PySem L2
theorem good_ok : ∀ k ∈ goodD, isTT k = true ∧ k.sz ≤ 1000 := by decide +kernel
theorem bad_ok : ∀ k ∈ badD, isTT k = false ∧ k.sz ≤ 1000 := by decide +kernel
end Toy

set_option Elab.async false
set_option linter.all false
set_option maxRecDepth 100000
set_option maxHeartbeats 4000000
/-! Part Q: a deep term; the reader of draws made; answers compared. -/
namespace Toy
open PySem L2
open PyProof.Rows (envOfC)
theorem tt_mk {w : Str} {r : List Dd} (h1 : formW w r = true) (h2 : ∀ p ∈ partsW w r, isTT p = true) : isTT (.tup (.str w :: r)) = true := by
  rw [isTT_eq]
  show (formW w r && (partsW w r).all isTT) = true
  rw [h1, Bool.true_and, List.all_eq_true]
  exact h2
theorem tt_lam {k : Dd} (h : isTT k = true) : isTT (.tup [.str "lam", .str "a", k]) = true := tt_mk (by rw [fw_lam]; show (decide (2 = 2) && isName (.str "a")) = true; rw [show isName (.str "a") = true by decide +kernel]; rfl) fun p hp => by
  rw [pw_lam] at hp
  rw [List.mem_singleton.mp hp]
  exact h
theorem tt_num {i : Int} (h0 : 0 ≤ i) (h1 : i ≤ 1000) : isTT (.tup [.str "num", .int i]) = true := tt_mk (by
  rw [fw_num]
  show (decide (1 = 1) && (decide (-1000000000000000 ≤ i) && decide (i ≤ 1000000000000000))) = true
  rw [decide_eq_true (show -1000000000000000 ≤ i by omega), decide_eq_true (show i ≤ 1000000000000000 by omega)]
  rfl) fun p hp => by
  rw [pw_num] at hp
  cases hp
theorem tt_app {a b : Dd} (ha : isTT a = true) (hb : isTT b = true) : isTT (.tup [.str "app", a, b]) = true := tt_mk (by rw [fw_app]; rfl) fun p hp => by
  rw [pw_app] at hp
  rcases mem2 hp with e | e <;> rw [e]
  · exact ha
  · exact hb
theorem tt_note {k : Dd} {i : Int} (h0 : 0 ≤ i) (h1 : i ≤ 1000) (h : isTT k = true) : isTT (.tup [.str "note", .int i, k]) = true := tt_mk (by
  rw [fw_note]
  show (decide (2 = 2) && (decide (0 ≤ i) && decide (i ≤ 1000000000000))) = true
  rw [decide_eq_true h0, decide_eq_true (show i ≤ 1000000000000 by omega)]
  rfl) fun p hp => by
  rw [pw_note] at hp
  rw [List.mem_singleton.mp hp]
  exact h
theorem tt_con {k : Dd} (h : isTT k = true) : isTT (.tup [.str "con", .int 1, .tup [k]]) = true := tt_mk (by rw [fw_con]; rfl) fun p hp => by
  rw [pw_con] at hp
  have hp : p ∈ [k] := hp
  rw [List.mem_singleton.mp hp]
  exact h
section
variable {P : Program} {w : World} {K : PySem.W.Frag} {mg : Str → Option Value} {base : Heap}
abbrev sChain : Stmt := topS 58
theorem scChain : FnScope ["many", "term", "k"] ["many"] (defScope sChain) := ⟨rfl, rfl, rfl, by decide +kernel, rfl, by decide +kernel, by decide +kernel⟩
def spChain : Sp := fun vs H Q _ => ∃ m : Nat, vs = [.int (m : Int)] ∧ m ≤ 200 ∧ ∀ (v : V) (k : Dd) (H' : Hp), Same H H' → k.At F0 H' v → isTT k = true → k.sz ≤ 10000 → Q v H'
theorem c_chain {f : Addr} {fd : FuncData} (T : TxtR mg) (F : Fun K "_law_chain" "_law_chain" sChain f fd) (b : Binds K fd ["many"] []) (hm : mg "_law_chain" = some (.ref f)) : C8.Cal P w K mg base 1 "_law_chain" spChain [] := by
  refine cal_of F hm b scChain (fun vs H Q E h => ?_) (fun cdv A outer s H vs Q E hr h => ?_)
  · obtain ⟨m, rfl, _⟩ := h
    rfl
  obtain ⟨m, rfl, hm200, q⟩ := h
  refine ⟨_, (pss_cons (ps_set (i := 1) scChain.nd rfl (Or.inl rfl) (pe_tup (pa_cons pe_str (pa_cons pe_int pa_nil))))
    (pss_cons (ps_for PassesOwn.never rfl (pi_range1 rfl T.zrange (pa_cons (pv 0) pa_nil)) (pg_name (i := 2) scChain.nd rfl (Or.inl rfl))
      (pss_one (ps_set (i := 1) scChain.nd rfl (Or.inl rfl) (pe_ix ix_list (pe_lst (pa_cons (pe_tup (pa_cons pe_str (pa_cons pe_str (pa_cons (pv 1) pa_nil)))) (pa_cons (pe_tup (pa_cons pe_str (pa_cons (pv 1) (pa_cons (pe_tup (pa_cons pe_str (pa_cons (pv 2) pa_nil))) pa_nil)))) (pa_cons (pe_tup (pa_cons pe_str (pa_cons (pv 2) (pa_cons (pv 1) pa_nil)))) (pa_cons (pe_tup (pa_cons pe_str (pa_cons pe_int (pa_cons (pe_tup (pa_cons (pv 1) pa_nil)) pa_nil)))) pa_nil))))) (pe_op op_mod (pv 2) pe_int) (fun _ _ => rfl)))))
    (pss_one (ps_ret (pv 1))))), ?_⟩
  refine ⟨by show 2 ≤ sizeLine; decide, fun o ho => ?_⟩
  have s0 := same_new ho (.tup [.str "num", .int 1])
  have o0 : Dd.At F0 (upd H o (.tup [.str "num", .int 1])) oneD (.ref o) := at_tup upd_same (ats_cons (at_str' (by decide +kernel)) (ats_cons at_int' ats_nil))
  generalize upd H o (.tup [.str "num", .int 1]) = H0 at s0 o0 ⊢
  refine ⟨_, rfl, _, rfl, by omega, by omega, for_range
    (fun (i : Nat) σ G => ∃ (v : V) (v2 : Option V) (k : Dd), σ = [some (.int (m : Int)), some v, v2] ∧ Same H G ∧ k.At F0 G v ∧ isTT k = true ∧ k.sz ≤ 3 + 6 * i)
    ⟨_, _, oneD, rfl, s0, o0, by decide +kernel, by decide⟩ ?_ ?_⟩
  · rintro i σ G hi ⟨v, v2, k, rfl, sG, aG, hk, hz⟩
    have hi2 : i ≤ 200 := by omega
    refine ⟨_, rfl, by show 3 ≤ sizeLine; decide, fun p0 h0 => ?_⟩
    have t0 := same_new h0 (.tup [.str "lam", .str "a", v])
    have a0 := aG.keep (fr_same (B := F0) t0)
    have b0 : Dd.At F0 (upd G p0 (.tup [.str "lam", .str "a", v])) (.tup [.str "lam", .str "a", k]) (.ref p0) := at_tup upd_same (ats_cons (at_str' (by decide +kernel)) (ats_cons (at_str' (by decide +kernel)) (ats_cons a0 ats_nil)))
    generalize upd G p0 (.tup [.str "lam", .str "a", v]) = G0 at t0 a0 b0 ⊢
    refine ⟨_, rfl, _, rfl, by show 2 ≤ sizeLine; decide, fun p1 h1 => ⟨by show 3 ≤ sizeLine; decide, fun p2 h2 => ?_⟩⟩
    have t1 := same_new h1 (.tup [.str "num", .int (0 + (i : Int))])
    have b1 : Dd.At F0 (upd G0 p1 (.tup [.str "num", .int (0 + (i : Int))])) (.tup [.str "num", .int (0 + (i : Int))]) (.ref p1) := at_tup upd_same (ats_cons (at_str' (by decide +kernel)) (ats_cons at_int' ats_nil))
    have a1 := a0.keep (fr_same (B := F0) t1)
    generalize upd G0 p1 (.tup [.str "num", .int (0 + (i : Int))]) = G1 at t1 a1 b1 h2 ⊢
    have t2 := same_new h2 (.tup [.str "app", v, .ref p1])
    have a2 := a1.keep (fr_same (B := F0) t2)
    have b2 : Dd.At F0 (upd G1 p2 (.tup [.str "app", v, .ref p1])) (.tup [.str "app", k, .tup [.str "num", .int (0 + (i : Int))]]) (.ref p2) := at_tup upd_same (ats_cons (at_str' (by decide +kernel)) (ats_cons a2 (ats_cons (b1.keep (fr_same t2)) ats_nil)))
    generalize upd G1 p2 (.tup [.str "app", v, .ref p1]) = G2 at t2 a2 b2 ⊢
    refine ⟨_, rfl, _, rfl, by show 3 ≤ sizeLine; decide, fun p3 h3 => ?_⟩
    have t3 := same_new h3 (.tup [.str "note", .int (0 + (i : Int)), v])
    have a3 := a2.keep (fr_same (B := F0) t3)
    have b3 : Dd.At F0 (upd G2 p3 (.tup [.str "note", .int (0 + (i : Int)), v])) (.tup [.str "note", .int (0 + (i : Int)), k]) (.ref p3) := at_tup upd_same (ats_cons (at_str' (by decide +kernel)) (ats_cons at_int' (ats_cons a3 ats_nil)))
    generalize upd G2 p3 (.tup [.str "note", .int (0 + (i : Int)), v]) = G3 at t3 a3 b3 ⊢
    refine ⟨_, rfl, by show 1 ≤ sizeLine; decide, fun p4 h4 => ⟨by show 3 ≤ sizeLine; decide, fun p5 h5 => ?_⟩⟩
    have t4 := same_new h4 (.tup [v])
    have a4 := a3.keep (fr_same (B := F0) t4)
    have b4 : Dd.At F0 (upd G3 p4 (.tup [v])) (.tup [k]) (.ref p4) := at_tup upd_same (ats_cons a4 ats_nil)
    generalize upd G3 p4 (.tup [v]) = G4 at t4 a4 b4 h5 ⊢
    have t5 := same_new h5 (.tup [.str "con", .int 1, .ref p4])
    have b5 : Dd.At F0 (upd G4 p5 (.tup [.str "con", .int 1, .ref p4])) (.tup [.str "con", .int 1, .tup [k]]) (.ref p5) := at_tup upd_same (ats_cons (at_str' (by decide +kernel)) (ats_cons at_int' (ats_cons (b4.keep (fr_same t5)) ats_nil)))
    generalize upd G4 p5 (.tup [.str "con", .int 1, .ref p4]) = G5 at t5 b5 ⊢
    refine ⟨by show 4 ≤ sizeLine; decide, fun p6 h6 => ?_⟩
    have t6 := same_new h6 (.lst [.ref p0, .ref p2, .ref p3, .ref p5])
    have e6 : upd G5 p6 (.lst [.ref p0, .ref p2, .ref p3, .ref p5]) p6 = some (.lst [.ref p0, .ref p2, .ref p3, .ref p5]) := upd_same
    generalize upd G5 p6 (.lst [.ref p0, .ref p2, .ref p3, .ref p5]) = G6 at t6 e6 ⊢
    have u5 := sameT t5 t6
    have u4 := sameT t4 u5
    have u3 := sameT t3 u4
    have u2 := sameT t2 u3
    have u1 := sameT t1 u2
    have sG6 := sameT sG (sameT t0 u1)
    have fin : ∀ (x : V) (k' : Dd), atI [.ref p0, .ref p2, .ref p3, .ref p5] ((0 + (i : Int)) % 4) = some x → k'.At F0 G6 x → isTT k' = true → k'.sz ≤ k.sz + 6 → ∃ x, atI [V.ref p0, .ref p2, .ref p3, .ref p5] ((0 + (i : Int)) % 4) = some x ∧ ∃ k' : Dd, k'.At F0 G6 x ∧ isTT k' = true ∧ k'.sz ≤ k.sz + 6 := fun x k' h1 h2 h3 h4 => ⟨x, h1, k', h2, h3, h4⟩
    obtain ⟨x, ex, k', ax, hk', hz'⟩ : ∃ x, atI [V.ref p0, .ref p2, .ref p3, .ref p5] ((0 + (i : Int)) % 4) = some x ∧ ∃ k' : Dd, k'.At F0 G6 x ∧ isTT k' = true ∧ k'.sz ≤ k.sz + 6 := by
      have m0 := Int.emod_nonneg (0 + (i : Int)) (show (4 : Int) ≠ 0 by decide)
      have m1 := Int.emod_lt_of_pos (0 + (i : Int)) (show (0 : Int) < 4 by decide)
      rcases (show (0 + (i : Int)) % 4 = 0 ∨ (0 + (i : Int)) % 4 = 1 ∨ (0 + (i : Int)) % 4 = 2 ∨ (0 + (i : Int)) % 4 = 3 by omega) with c | c | c | c
      · exact fin _ _ (by rw [c]; exact at0 _ _) (b0.keep (fr_same u1)) (tt_lam hk) (by show 1 + (1 + (1 + (k.sz + 0))) ≤ _; omega)
      · exact fin _ _ (by rw [c]; exact at1 _ _ _) (b2.keep (fr_same u3)) (tt_app hk (tt_num (by omega) (by omega))) (by show 1 + (1 + (k.sz + (1 + (1 + (1 + 0)) + 0))) ≤ _; omega)
      · exact fin _ _ (by rw [c]; exact at2 _ _ _ _) (b3.keep (fr_same u4)) (tt_note (by omega) (by omega) hk) (by show 1 + (1 + (1 + (k.sz + 0))) ≤ _; omega)
      · exact fin _ _ (by rw [c]; exact at3 _ _ _ _ _) (b5.keep (fr_same t6)) (tt_con hk) (by show 1 + (1 + (1 + (1 + (k.sz + 0) + 0))) ≤ _; omega)
    refine ⟨_, rfl, _, _, rfl, rfl, (show (0 : Int) < 4 by decide), p6, _, _, _, rfl, rfl, SqL.of e6, ex, ?_⟩
    exact ⟨x, _, k', rfl, sG6, ax, hk', by omega⟩
  rintro σ G ⟨v, v2, k, rfl, sG, aG, hk, hz⟩
  rw [Int.toNat_natCast] at hz
  exact ⟨_, rfl, q v k G sG aG hk (by omega)⟩
abbrev sSays : Stmt := topS 59
theorem scSays : FnScope ["actual", "expected"] ["actual", "expected"] (defScope sSays) := ⟨rfl, rfl, rfl, by decide +kernel, rfl, by decide +kernel, by decide +kernel⟩
def spSays : Sp := fun vs H Q _ => ∃ a b : Bool, vs = [.bl a, .bl b] ∧ Q (.bl (decide (a = b))) H
theorem c_says {f : Addr} {fd : FuncData} (T : TxtR mg) (F : Fun K "_law_says" "_law_says" sSays f fd) (b : Binds K fd ["actual", "expected"] []) (hm : mg "_law_says" = some (.ref f)) : C8.Cal P w K mg base 1 "_law_says" spSays [] := by
  refine cal_of F hm b scSays (fun vs H Q E h => ?_) (fun cdv A outer s H vs Q E hr h => ?_)
  · obtain ⟨a, b, rfl, _⟩ := h
    rfl
  obtain ⟨a, b, rfl, q⟩ := h
  refine ⟨_, (pss_one (ps_ret (pe_and (pe_callB call_isi rfl T.zisinstance boot_isinstance (pa_cons (pv 0) (pa_cons (pe_bltn (v := .ty "bool") rfl T.zbool boot_bool rfl) pa_nil))) (pe_one (pe_cmpR op_eq (pv 0) (pv 1) (nomark _)))))), ?_⟩
  refine ⟨_, rfl, .bl a, .ty "bool", _, _, _, rfl, .ty "bool", ty_of (B := F0) (H := H) (k := .bl a) rfl, kit_bool (.bl a), ?_⟩
  refine ⟨_, rfl, ?_⟩
  refine iteT ?_
  refine ⟨_, rfl, _, rfl, rfl, ?_⟩
  have e : (decide (V.bl a = V.bl b)) = decide (a = b) := by
    by_cases c : a = b
    · rw [c, decide_eq_true rfl, decide_eq_true rfl]
    · rw [decide_eq_false c, decide_eq_false fun z => c (by injection z)]
  show Q (V.bl (decide (V.bl a = V.bl b))) H
  rw [e]
  exact q
abbrev sStart : Stmt := topS 49
theorem scStart : FnScope ["script", "left"] ["script", "left"] (defScope sStart) := ⟨rfl, rfl, rfl, by decide +kernel, rfl, by decide +kernel, by decide +kernel⟩
def spStart (K : PySem.W.Frag) : Sp := fun vs H Q _ => ∃ (a : Addr) (ns : List Int) (l : Int), vs = [.ref a, .int l] ∧ SqL K H a (ns.map V.int) ∧ ns.length ≤ 63 ∧ ∀ (p r : Addr) (H' : Hp), H p = none → Same H H' → DAt H' p r 0 → Q (.ref p) H'
theorem c_start {f : Addr} {fd : FuncData} (c_law_draws : C8.Cal P w K mg base 1 "_law_draws" (spDraws K) []) (F : Fun K "_law_start" "_law_start" sStart f fd) (b : Binds K fd ["script", "left"] []) (hm : mg "_law_start" = some (.ref f)) : C8.Cal P w K mg base 2 "_law_start" (spStart K) [] := by
  refine cal_of F hm b scStart (fun vs H Q E h => ?_) (fun cdv A outer s H vs Q E hr h => ?_)
  · obtain ⟨a, ns, l, rfl, _⟩ := h
    rfl
  obtain ⟨a, ns, l, rfl, hS, h63, q⟩ := h
  refine ⟨_, (pss_one (ps_ret (pe_disp (pps_cons pe_str (C8.pe_c c_law_draws hr (by decide) rfl (pa_cons (pv 0) (pa_cons pe_int pa_nil))) (pps_cons pe_str pe_int (pps_cons pe_str pe_int (pps_cons pe_str (pv 1) pps_nil)))) rfl rfl (by decide) (by decide)))), ?_⟩
  intro p hp
  have s1 := same_new hp (.dK [])
  have e1 : upd H p (.dK []) p = some (.dK []) := upd_same
  generalize upd H p (.dK []) = H1 at s1 e1 ⊢
  refine ⟨_, rfl, a, ns, 400, rfl, s1.seq hS, h63, by decide, by decide, fun r row H2 hr0 s2 hl hrow => ?_⟩
  have e2 := s2 _ _ e1
  refine ⟨_, rfl, e2, [(Sum.inr "row", V.ref r), (Sum.inr "at", V.int 0), (Sum.inr "names", V.int 0), (Sum.inr "left", V.int l)], rfl, (by show 4 ≤ 15; decide), ?_⟩
  have npr : r ≠ p := ne_of hl e2 (by intro z; cases z)
  rw [dk_merge]
  refine q p r _ hp (fun b u e => ?_) ⟨row, 0, 0, l, upd_same, by rw [upd_ne npr]; exact hl, hrow, Nat.le_refl _⟩
  rw [upd_ne (fun z => by rw [z, hp] at e; cases e)]
  exact s2 _ _ (s1 _ _ e)
end
end Toy

set_option Elab.async false
set_option linter.all false
set_option maxRecDepth 100000
set_option maxHeartbeats 8000000
/-! Part R: the law. -/
namespace Toy
open PySem L2
open PyProof.Rows (envOfC)
theorem AtX.keepP {pl : Addr} {H H' : Hp} {k : Dd} {v : V} (n : H pl = none) (kp : KeepP pl H H') (h : AtX H k v) : AtX H' k v := by
  have ne : ∀ a, Ex H a → a ≠ pl := fun a e z => e (by rw [z]; exact n)
  refine Dd.At.weak (B := Ex H) (fun a xs _ e => ?_) (Dd.At.keep ⟨fun a xs e => kp a _ (fun z => by rw [z, n] at e; cases e) e, fun a xs b e => kp a _ (ne a b) e⟩ h)
  cases hh : H a with
  | none => exact (e hh).elim
  | some u => unfold Ex; rw [kp a u (ne a e) hh]; exact fun z => by cases z
theorem At0.keepP {pl : Addr} {H H' : Hp} {k : Dd} {v : V} (n : H pl = none) (kp : KeepP pl H H') (h : k.At F0 H v) : k.At F0 H' v :=
  Dd.At.keep ⟨fun a xs e => kp a _ (fun z => by rw [z, n] at e; cases e) e, fun a xs b e => b.elim⟩ h
theorem DAt.keepP {pl p r : Addr} {B : Nat} {H H' : Hp} (n : H pl = none) (kp : KeepP pl H H') (d : DAt H p r B) : DAt H' p r B := by
  obtain ⟨row, i, nn, l, h1, h2, h3⟩ := d
  exact ⟨row, i, nn, l, kp p _ (fun z => by rw [z, n] at h1; cases h1) h1, kp r _ (fun z => by rw [z, n] at h2; cases h2) h2, h3⟩
theorem kind_of {n : Nat} {k : Dd} (h : isN n k = true) : kindTup k = true := by
  match k, isN_form h with
  | .tup (.str w :: r), f => exact decide_eq_true (form_word f)
theorem rep_bad {k bd : Dd} {c : Int} (hc : 0 ≤ c) (hN : isN 7 k = true) (hb : isTT bd = false) : isTT (rep bd k c).1 = decide (0 ≤ (rep bd k c).2) := by
  rcases rep_spec bd k c hc with ⟨h1, h2⟩ | ⟨h1, h2⟩
  · rw [h2, decide_eq_true h1]
    exact isN_T 7 k hN
  · rw [h2 7 hN, h1, hb]
    rfl
theorem rep_good {k gd : Dd} {c : Int} (hc : 0 ≤ c) (hN : isN 7 k = true) (hg : isTT gd = true) : isTT (rep gd k c).1 = true := by
  rcases rep_spec gd k c hc with ⟨h1, h2⟩ | ⟨h1, h2⟩
  · rw [h2]
    exact isN_T 7 k hN
  · rw [h2 7 hN, hg]
section
variable {P : Program} {w : World} {K : PySem.W.Frag} {mg : Str → Option Value} {base : Heap}
abbrev sLaw : Stmt := topS 60
theorem scLaw : FnScope ["script", "d", "term", "k", "at", "bad", "place", "spoilt", "good"] ["script"] (defScope sLaw) := ⟨rfl, rfl, rfl, by decide +kernel, rfl, by decide +kernel, by decide +kernel⟩
def spLaw (K : PySem.W.Frag) : Sp := fun vs H Q _ => ∃ (a : Addr) (ns : List Int), vs = [.ref a] ∧ SqL K H a (ns.map V.int) ∧ ns.length ≤ 63 ∧ ∀ H', Q (.bl true) H'
theorem c_law {f : Addr} {fd : FuncData} (T : TxtR mg) (c_law_start : C8.Cal P w K mg base 2 "_law_start" (spStart K) []) (c_law_take : C8.Cal P w K mg base 1 "_law_take" spTake []) (c_law_any : C8.Cal P w K mg base (2 * 7 + 4) "_law_any" (spAny 7) [])
    (cis_term : C8.Cal P w K mg base 6 "is_term" (spB isTT fun k => k.sz ≤ 1000000) []) (c_law_replace : C8.Cal P w K mg base (7 + 1) "_law_replace" (spReplace 7) []) (c_law_good : C8.Cal P w K mg base 1 "_law_good" spGood []) (c_law_bad : C8.Cal P w K mg base 1 "_law_bad" spBad []) (c_law_chain : C8.Cal P w K mg base 1 "_law_chain" spChain []) (c_law_says : C8.Cal P w K mg base 1 "_law_says" spSays [])
    (F : Fun K "law" "law" sLaw f fd) : FnOk P w K mg base CX0 20 f fd ["script"] (spLaw K) := by
  refine F.ok scLaw (fun vs H Q E h => ?_) (fun cdv A outer s H vs Q E hr h => ?_)
  · obtain ⟨a, ns, rfl, _⟩ := h
    rfl
  obtain ⟨a, ns, rfl, hS, h63, q⟩ := h
  have hu := hu_of hr
  refine ⟨_, (pss_cons (ps_set (i := 1) scLaw.nd rfl (Or.inl rfl) (C8.pe_c c_law_start hr (by decide) rfl (pa_cons (pv 0) (pa_cons pe_int pa_nil))))
    (pss_cons (ps_set (i := 2) scLaw.nd rfl (Or.inl rfl) (C8.pe_c c_law_any hr (by decide) rfl (pa_cons (pv 1) (pa_cons pe_int pa_nil))))
    (pss_cons (ps_if (PW.pt (pw_or (pt_not (pt_val (C8.pe_c c_law_says hr (by decide) rfl (pa_cons (C8.pe_c cis_term hr (by decide) rfl (pa_cons (pv 2) pa_nil)) (pa_cons pe_bl pa_nil))))) (pw_or1 (pt_not (pt_val (C8.pe_c c_law_says hr (by decide) rfl (pa_cons (C8.pe_c cis_term hr (by decide) rfl (pa_cons (C8.pe_c c_law_chain hr (by decide) rfl (pa_cons (pe_op op_sub pe_int (pe_op op_mod (C8.pe_c c_law_take hr (by decide) rfl (pa_cons (pv 1) pa_nil)) pe_int)) pa_nil)) pa_nil)) (pa_cons pe_bl pa_nil))))))))
      (pss_one (ps_ret pe_bl))
      pss_nil)
    (pss_cons (ps_for PassesOwn.never rfl (pi_range1 rfl T.zrange (pa_cons pe_int pa_nil)) (pg_name (i := 3) scLaw.nd rfl (Or.inl rfl))
      (pss_cons (ps_set (i := 4) scLaw.nd rfl (Or.inl rfl) (pe_op op_mod (C8.pe_c c_law_take hr (by decide) rfl (pa_cons (pv 1) pa_nil)) pe_int))
    (pss_cons (ps_for PassesOwn.never rfl (pi_list (pe_lst (pa_cons (C8.pe_c c_law_bad hr (by decide) rfl (pa_cons (C8.pe_c c_law_take hr (by decide) rfl (pa_cons (pv 1) pa_nil)) pa_nil)) (pa_cons (C8.pe_c c_law_bad hr (by decide) rfl (pa_cons (pe_op op_add (pe_op op_mul pe_int (pv 3)) (C8.pe_c c_law_take hr (by decide) rfl (pa_cons (pv 1) pa_nil))) pa_nil)) pa_nil)))) (pg_name (i := 5) scLaw.nd rfl (Or.inl rfl))
      (pss_cons (ps_if (pt_not (pt_val (C8.pe_c c_law_says hr (by decide) rfl (pa_cons (C8.pe_c cis_term hr (by decide) rfl (pa_cons (pv 5) pa_nil)) (pa_cons pe_bl pa_nil)))))
      (pss_one (ps_ret pe_bl))
      pss_nil)
    (pss_cons (ps_set (i := 6) scLaw.nd rfl (Or.inl rfl) (pe_lst (pa_cons (pv 4) pa_nil)))
    (pss_cons (ps_set (i := 7) scLaw.nd rfl (Or.inl rfl) (C8.pe_c c_law_replace hr (by decide) rfl (pa_cons (pv 2) (pa_cons (pv 6) (pa_cons (pv 5) pa_nil)))))
    (pss_one (ps_if (pt_not (pt_val (C8.pe_c c_law_says hr (by decide) rfl (pa_cons (C8.pe_c cis_term hr (by decide) rfl (pa_cons (pv 7) pa_nil)) (pa_cons (pe_cmpR op_ge (pe_ix ix_list (pv 6) pe_int (fun _ _ => rfl)) pe_int (nomark _)) pa_nil)))))
      (pss_one (ps_ret pe_bl))
      pss_nil))))))
    (pss_cons (ps_set (i := 8) scLaw.nd rfl (Or.inl rfl) (C8.pe_c c_law_good hr (by decide) rfl (pa_cons (pe_op op_add (C8.pe_c c_law_take hr (by decide) rfl (pa_cons (pv 1) pa_nil)) (pv 3)) pa_nil)))
    (pss_one (ps_if (PW.pt (pw_or (pt_not (pt_val (C8.pe_c c_law_says hr (by decide) rfl (pa_cons (C8.pe_c cis_term hr (by decide) rfl (pa_cons (pv 8) pa_nil)) (pa_cons pe_bl pa_nil))))) (pw_or1 (pt_not (pt_val (C8.pe_c c_law_says hr (by decide) rfl (pa_cons (C8.pe_c cis_term hr (by decide) rfl (pa_cons (C8.pe_c c_law_replace hr (by decide) rfl (pa_cons (pv 2) (pa_cons (pe_lst (pa_cons (pv 4) pa_nil)) (pa_cons (pv 8) pa_nil)))) pa_nil)) (pa_cons pe_bl pa_nil))))))))
      (pss_one (ps_ret pe_bl))
      pss_nil))))))
    (pss_one (ps_ret pe_bl)))))), ?_⟩
  refine ⟨_, rfl, a, ns, 40, rfl, hS, h63, fun p r H1 hp s1 d1 => ?_⟩
  refine ⟨_, rfl, p, r, 0, 6, rfl, by decide, d1, by decide, fun v k H2 k2 d2 a2 g2 => ?_⟩
  have hN : isN 7 k = true := g2.ok
  have hT := isN_T 7 k hN
  have hkt := kind_of hN
  have hsz : k.sz ≤ 40000 := by
    have := g2.sz
    omega
  have d2 : DAt H2 p r 40000 := d2.more (by omega)
  refine ⟨_, rfl, F0, v, k, rfl, a2, by omega, fun H3 s3 => ⟨_, _, rfl, _, rfl, ?_⟩⟩
  rw [hT, decide_eq_true rfl]
  refine iteF ?_
  have d3 := d2.same s3
  have a3 := a2.keep (fr_same (B := F0) s3)
  refine ⟨_, rfl, p, r, _, rfl, d3, fun n4 H4 n40 n41 k4 d4 => ?_⟩
  have m40 := Int.emod_nonneg n4 (show (90 : Int) ≠ 0 by decide)
  have m41 := Int.emod_lt_of_pos n4 (show (0 : Int) < 90 by decide)
  refine ⟨_, _, rfl, rfl, (show (0 : Int) < 90 by decide), _, _, rfl, rfl, (199 - n4 % 90).toNat, by rw [Int.toNat_of_nonneg (by omega)]; rfl, by omega, fun v5 k5 H5 s5 a5 t5 z5 => ?_⟩
  refine ⟨F0, v5, k5, rfl, a5, by omega, fun H6 s6 => ⟨_, _, rfl, _, rfl, ?_⟩⟩
  rw [t5, decide_eq_true rfl]
  refine iteF ?_
  have a6 := (a3.keep (fr_keep k4 d3)).keep (fr_same (B := F0) (sameT s5 s6))
  have d6 := d4.same (sameT s5 s6)
  refine ⟨_, rfl, by omega, by omega, for_range
    (fun (i : Nat) σ G => ∃ (v3 v4 v5 v6 v7 v8 : Option V), σ = [some (.ref a), some (.ref p), some v, v3, v4, v5, v6, v7, v8] ∧ k.At F0 G v ∧ DAt G p r (40001 + 4 * i))
    ⟨_, _, _, _, _, _, rfl, a6, d6⟩ ?_ ?_⟩
  · rintro i σ G hi ⟨v3, v4, v5, v6, v7, v8, rfl, aG, dG⟩
    have hi12 : i < 12 := by omega
    refine ⟨_, rfl, p, r, _, rfl, dG, fun n1 G1 n10 n11 k1 d1 => ?_⟩
    have hc := Int.emod_nonneg n1 (show (12 : Int) ≠ 0 by decide)
    refine ⟨_, _, rfl, rfl, (show (0 : Int) < 12 by decide), ?_⟩
    have aG1 := aG.keep (fr_keep k1 dG)
    refine ⟨_, rfl, p, r, _, rfl, d1, fun n2 G2 n20 n21 k2 d2 => ⟨n2, rfl, fun w1 b1 G3 s3 x1 m1 => ?_⟩⟩
    have aG3 := (aG1.keep (fr_keep k2 d1)).keep (fr_same (B := F0) s3)
    have dG3 := d2.same s3
    refine ⟨_, rfl, _, _, rfl, rfl, (by show CMul 7 (0 + (i : Int)); unfold CMul; omega), _, rfl, p, r, _, rfl, dG3, fun n4 G4 n40 n41 k4 d4 => ?_⟩
    refine ⟨_, _, rfl, rfl, _, rfl, fun w2 b2 G5 s5 x2 m2 => ?_⟩
    refine ⟨by show 2 ≤ sizeLine; decide, fun L hL => ?_⟩
    have sL := same_new hL (.lst [w1, w2])
    have eL : upd G5 L (.lst [w1, w2]) L = some (.lst [w1, w2]) := upd_same
    have aG5 := ((aG3.keep (fr_keep k4 dG3)).keep (fr_same (B := F0) s5)).keep (fr_same (B := F0) sL)
    have dG5 := (d4.same s5).same sL
    have y1 : AtX (upd G5 L (.lst [w1, w2])) b1 w1 := (((Dd.At.keep (fr_keep k4 dG3) x1).keep (fr_same s5)).keep (fr_same sL)).here
    have y2 : AtX (upd G5 L (.lst [w1, w2])) b2 w2 := x2.same sL
    generalize upd G5 L (.lst [w1, w2]) = G6 at eL aG5 dG5 y1 y2 ⊢
    refine ⟨L, rfl, ⟨_, SqL.of eL⟩, for_list (a := L) (xs := [w1, w2])
      (fun (j : Nat) σ G => ∃ (v5 v6 v7 v8 : Option V), σ = [some (.ref a), some (.ref p), some v, some (.int (0 + (i : Int))), some (.int (n1 % 12)), v5, v6, v7, v8] ∧ k.At F0 G v ∧ DAt G p r (40004 + 4 * i) ∧ G L = some (.lst [w1, w2]) ∧ AtX G b1 w1 ∧ AtX G b2 w2)
      ⟨_, _, _, _, rfl, aG5, dG5.more (by omega), eL, y1, y2⟩ (fun j σ G _ ⟨_, _, _, _, _, _, _, h, _⟩ => SqL.of h) ?_ ?_⟩
    · rintro j x σ G7 hx ⟨v5, v6, v7, v8, rfl, aG7, dG7, eL7, y17, y27⟩
      obtain ⟨bd, hbd, xb⟩ : ∃ bd, bd ∈ badD ∧ AtX G7 bd x := by
        have hh : ∀ (j : Nat) (x : V), [w1, w2][j]? = some x → ∃ bd, bd ∈ badD ∧ AtX G7 bd x := fun j x hx => by
          match j, hx with
          | 0, hx => cases hx; exact ⟨b1, m1, y17⟩
          | 1, hx => cases hx; exact ⟨b2, m2, y27⟩
          | j + 2, hx => simp at hx
        exact hh j x hx
      obtain ⟨hbF, hbz⟩ := bad_ok bd hbd
      refine ⟨_, rfl, _, x, bd, rfl, xb, by omega, fun G8 s8 => ⟨_, _, rfl, _, rfl, ?_⟩⟩
      rw [hbF, decide_eq_true rfl]
      refine iteF ?_
      have aG8 := aG7.keep (fr_same (B := F0) s8)
      have dG8 := dG7.same s8
      have eL8 := s8 _ _ eL7
      have y18 := y17.same s8
      have y28 := y27.same s8
      have xb8 := xb.same s8
      refine ⟨_, rfl, by show 1 ≤ sizeLine; decide, fun pl hpl => ?_⟩
      have sp := same_new hpl (.lst [.int (n1 % 12)])
      refine ⟨_, rfl, _, rfl, _, rfl, v, x, pl, n1 % 12, k, bd, Ex G8, rfl, upd_same, hc, fun h => h hpl, F0.to (aG8.keep (fr_same sp)), Dd.At.keep (fr_same sp) xb8, hkt, hN, hsz, fun b hb => ex_same sp hb, fun v' G9 kp hpl9 a9 => ?_⟩
      have kp8 : KeepP pl G8 G9 := (KeepP.same sp).trans kp
      have hrs := rep_sz bd k (n1 % 12)
      refine ⟨_, rfl, _, v', _, rfl, a9, by omega, fun G10 s10 => ?_⟩
      refine ⟨_, rfl, pl, _, 0, _, rfl, rfl, SqL.of (s10 _ _ hpl9), at0 _ _, _, _, rfl, rfl, _, _, rfl, _, rfl, ?_⟩
      rw [rep_bad hc hN hbF, decide_eq_true rfl]
      refine iteF ?_
      have kp10 : KeepP pl G8 G10 := kp8.trans (KeepP.same s10)
      exact ⟨_, _, _, _, rfl, At0.keepP hpl kp10 aG8, dG8.keepP hpl kp10, kp10 _ _ (ne_of_none eL8 hpl) eL8, y18.keepP hpl kp10, y28.keepP hpl kp10⟩
    rintro σ G7 ⟨v5, v6, v7, v8, rfl, aG7, dG7, eL7, y17, y27⟩
    refine ⟨_, rfl, p, r, _, rfl, dG7, fun n8 G8 n80 n81 k8 d8 => ⟨_, rfl, _, _, rfl, rfl, _, rfl, fun wg gd G9 s9 xg mg' => ?_⟩⟩
    obtain ⟨hgT, hgz⟩ := good_ok gd mg'
    have aG9 := (aG7.keep (fr_keep k8 dG7)).keep (fr_same (B := F0) s9)
    have dG9 := d8.same s9
    refine ⟨_, rfl, _, wg, gd, rfl, xg, by omega, fun G10 s10 => ⟨_, _, rfl, _, rfl, ?_⟩⟩
    rw [hgT, decide_eq_true rfl]
    refine iteF ?_
    have aG10 := aG9.keep (fr_same (B := F0) s10)
    have dG10 := dG9.same s10
    have xg10 := xg.same s10
    refine ⟨_, rfl, _, rfl, by show 1 ≤ sizeLine; decide, fun pl hpl => ?_⟩
    have sp := same_new hpl (.lst [.int (n1 % 12)])
    refine ⟨_, rfl, v, wg, pl, n1 % 12, k, gd, Ex G10, rfl, upd_same, hc, fun h => h hpl, F0.to (aG10.keep (fr_same sp)), Dd.At.keep (fr_same sp) xg10, hkt, hN, hsz, fun b hb => ex_same sp hb, fun v' G11 kp hpl11 a11 => ?_⟩
    have kp11 : KeepP pl G10 G11 := (KeepP.same sp).trans kp
    have hrs := rep_sz gd k (n1 % 12)
    refine ⟨_, v', _, rfl, a11, by omega, fun G12 s12 => ⟨_, _, rfl, _, rfl, ?_⟩⟩
    rw [rep_good hc hN hgT, decide_eq_true rfl]
    refine iteF ?_
    have kp12 : KeepP pl G10 G12 := kp11.trans (KeepP.same s12)
    exact ⟨_, _, _, _, _, _, rfl, At0.keepP hpl kp12 aG10, (dG10.keepP hpl kp12).more (by omega)⟩
  rintro σ G ⟨v3, v4, v5, v6, v7, v8, rfl, aG, dG⟩
  exact q G
end
end Toy

set_option Elab.async false
set_option linter.all false
set_option maxRecDepth 100000
set_option maxHeartbeats 4000000
/-! Part S: written dicts whose values are defs; written tuples. -/
namespace Toy
open PySem L2
open PyProof.Rows (envOfC)
def strsAre : List Str → List Value → Bool
  | [], [] => true
  | z :: zs, .str x _ :: us => decide (x = z) && strsAre zs us
  | _, _ => false
theorem strsAre_ok : ∀ {zs : List Str} {us : List Value}, strsAre zs us = true → Vals (zs.map V.str) us
  | [], [], _ => .nil
  | [], _ :: _, h => by simp [strsAre] at h
  | _ :: _, [], h => by simp [strsAre] at h
  | z :: zs, u :: us, h => by
    cases u with
    | str x t =>
      simp only [strsAre, Bool.and_eq_true, decide_eq_true_eq] at h
      exact .cons ⟨t, by rw [h.1]⟩ (strsAre_ok h.2)
    | _ => simp [strsAre] at h
theorem written_tup {K : PySem.W.Frag} {a : Addr} {zs : List Str} {oc : Value} {od : Option Addr} {its : Array Value} {n : Nat} {sl : Array (Option Value)} (hz : zs.length ≤ 1000) (l : K.lookup a = some ⟨oc, od, .seq its n, sl⟩) (c : oc = .type "tuple") (v : strsAre zs its.toList = true) : ∀ H : Hp, SqT K H a (zs.map V.str) := fun H => by
  subst c
  have hv := strsAre_ok v
  have hl := hv.length
  rw [List.length_map] at hl
  have hl' : zs.length = its.size := by rw [hl]; exact Array.length_toList
  exact .inr ⟨_, its, n, l, rfl, rfl, Nat.le_of_lt (szl (by omega)), hv⟩
/-- the keys of a written dict -/
def keysAre : List DictEntry → List Str → Bool
  | [], [] => true
  | e :: es, z :: zs => (match e.key with | .str x _ => decide (x = z) | _ => false) && keysAre es zs
  | _, _ => false
theorem keys_out : ∀ {es : List DictEntry} {zs : List Str}, keysAre es zs = true → ∀ {z : Str}, z ∉ zs → es.find? (·.key.isStr z) = none ∧ es.any (·.refKey) = false
  | [], [], _, _, _ => ⟨rfl, rfl⟩
  | [], _ :: _, h, _, _ => by simp [keysAre] at h
  | _ :: _, [], h, _, _ => by simp [keysAre] at h
  | e :: es, y :: ys, h, z, n => by
    obtain ⟨h1, h2⟩ := fand h
    obtain ⟨g1, g2⟩ := keys_out h2 (fun m => n (List.mem_cons_of_mem _ m))
    obtain ⟨hs, k, v⟩ := e
    cases k with
    | str x t =>
      have hx : x = y := of_decide_eq_true h1
      subst hx
      have hzx : ¬ x = z := fun e => n (by rw [e]; exact List.mem_cons_self ..)
      have hk : (Value.str x t).isStr z = false := by
        rw [PySem.W.isStr_of]
        simp [Value.isStrOf, hzx]
      refine ⟨?_, ?_⟩
      · rw [List.find?_cons]
        show (match (Value.str x t).isStr z with | true => _ | false => _) = none
        rw [hk]
        exact g1
      · rw [List.any_cons, g2]
        rfl
    | _ => cases h1
theorem nsIn_out {K : PySem.W.Frag} {d : Addr} {es : Array DictEntry} {n : Nat} {zs : List Str} (l : K.lookup d = some ⟨.type "dict", none, .dict es n, #[]⟩) (h : keysAre es.toList zs = true) {z : Str} (nz : z ∉ zs) : PySem.W.nsIn K d z = some none := by
  obtain ⟨h1, h2⟩ := keys_out h nz
  unfold PySem.W.nsIn
  rw [l]
  show (match es.toList.find? (·.key.isStr z) with | some e => some (some e.val) | none => if es.toList.any (·.refKey) then none else some none) = _
  rw [h1]
  show (if es.toList.any (·.refKey) = true then none else some none) = _
  rw [h2]
  rfl
theorem held_of {P : Program} {w : World} {K : PySem.W.Frag} {mg : Str → Option Value} {base : Heap} {k : Nat} {x : Str} {f : Addr} {sp : Sp} (c : C8.Cal P w K mg base k x sp []) (hm : mg x = some (.ref f)) : Held P w K mg base k f sp := by
  obtain ⟨f', fd, ps, ds, F, hm', kp, b, d⟩ := c.ex
  rw [hm] at hm'
  cases hm'
  cases d
  exact ⟨fd, ps, F, kp, b⟩
def tab (l : List (Addr × Sp)) (f : Addr) : Option Sp := (l.find? fun q => decide (q.1 = f)).map (·.2)
theorem tab_mem : ∀ {l : List (Addr × Sp)}, (l.map (·.1)).Nodup → ∀ {f : Addr} {sp : Sp}, (f, sp) ∈ l → tab l f = some sp
  | q :: l, h, f, sp, m => by
    rw [List.map_cons, List.nodup_cons] at h
    unfold tab
    rw [List.find?_cons]
    rcases List.mem_cons.mp m with e | e
    · rw [← e, show decide ((f, sp).1 = f) = true from decide_eq_true rfl]
      rfl
    · rw [show decide (q.1 = f) = false from decide_eq_false fun z => h.1 (by rw [z]; exact List.mem_map.mpr ⟨_, e, rfl⟩)]
      exact tab_mem h.2 e
theorem tab_of {l : List (Addr × Sp)} {f : Addr} {sp : Sp} (h : tab l f = some sp) : (f, sp) ∈ l := by
  unfold tab at h
  obtain ⟨q, hq, rfl⟩ := Option.map_eq_some_iff.mp h
  have h1 := List.mem_of_find?_eq_some hq
  have h2 := List.find?_some (p := fun q : Addr × Sp => decide (q.1 = f)) hq
  have h2 : q.1 = f := of_decide_eq_true h2
  rw [← h2]
  exact h1
theorem rows_are {n : Nat} {k : Dd} (h : areRows n k = true) : ∃ l, k = .tup l ∧ ∀ q ∈ l, ∃ m, q = .tup m ∧ m.length = n := by
  match k, h with
  | .tup l, h => exact ⟨l, rfl, fun q hq => by
      have := List.all_eq_true.mp h q hq
      match q, this with
      | .tup m, t => exact ⟨m, rfl, of_decide_eq_true t⟩⟩
theorem rows_some {n : Nat} {k : Dd} (h : areRows (n + 1) k = true) : RowsD k := by
  obtain ⟨l, e, hl⟩ := rows_are h
  exact ⟨l, e, fun q hq => by obtain ⟨m, e, hm⟩ := hl q hq; exact ⟨m, e, by omega⟩⟩
end Toy

set_option Elab.async false
set_option linter.all false
set_option maxRecDepth 100000
set_option maxHeartbeats 4000000
/-! The last part: what the program's top has left, and the end. -/
namespace Toy
open PySem L2
open PyProof.Rows (envOfC)
theorem all_mk {l : PySem.W.OpenLaw} {w : World} {K : PySem.W.Frag} {h : Heap} {mg : Str → Option Value} {fa : Addr} {f0 f1 f2 f3 f4 f5 f6 f7 f8 f9 f10 f11 f12 f13 f14 f15 f16 f17 f18 f19 f20 f21 f22 f23 f24 f25 f26 f27 f28 f29 f30 f31 f32 f33 f34 f35 f36 f37 f38 f39 f40 f41 f42 f43 f44 f45 : Addr} (X : K.In h) (G : h.Ns mainGlobals mg) (hfa : mg "law" = some (.ref fa))
    {od0 an0 od1 an1 od2 an2 od3 an3 od4 an4 od5 an5 od6 an6 od7 an7 od8 an8 od9 an9 od10 an10 od11 an11 od12 an12 od13 an13 od14 an14 od15 an15 od16 an16 od17 an17 od18 an18 od19 an19 od20 an20 od21 an21 od22 an22 od23 an23 od24 an24 od25 an25 od26 an26 od27 an27 od28 an28 od29 an29 od30 an30 od31 an31 od32 an32 od33 an33 od34 an34 od35 an35 od36 an36 od37 an37 od38 an38 od39 an39 od40 an40 od41 an41 od42 an42 od43 an43 od44 an44 od45 an45 : Option Addr} {sl0 sl1 sl2 sl3 sl4 sl5 sl6 sl7 sl8 sl9 sl10 sl11 sl12 sl13 sl14 sl15 sl16 sl17 sl18 sl19 sl20 sl21 sl22 sl23 sl24 sl25 sl26 sl27 sl28 sl29 sl30 sl31 sl32 sl33 sl34 sl35 sl36 sl37 sl38 sl39 sl40 sl41 sl42 sl43 sl44 sl45 : Array (Option Value)} {oc0 kV0 dc0 pm0 cd0 ct0 oc1 kV1 dc1 pm1 cd1 ct1 oc2 kV2 dc2 pm2 cd2 ct2 oc3 kV3 dc3 pm3 cd3 ct3 oc4 kV4 dc4 pm4 cd4 ct4 oc5 kV5 dc5 pm5 cd5 ct5 oc6 kV6 dc6 pm6 cd6 ct6 oc7 kV7 dc7 pm7 cd7 ct7 oc8 kV8 dc8 pm8 cd8 ct8 oc9 kV9 dc9 pm9 cd9 ct9 oc10 kV10 dc10 pm10 cd10 ct10 oc11 kV11 dc11 pm11 cd11 ct11 oc12 kV12 dc12 pm12 cd12 ct12 oc13 kV13 dc13 pm13 cd13 ct13 oc14 kV14 dc14 pm14 cd14 ct14 oc15 kV15 dc15 pm15 cd15 ct15 oc16 kV16 dc16 pm16 cd16 ct16 oc17 kV17 dc17 pm17 cd17 ct17 oc18 kV18 dc18 pm18 cd18 ct18 oc19 kV19 dc19 pm19 cd19 ct19 oc20 kV20 dc20 pm20 cd20 ct20 oc21 kV21 dc21 pm21 cd21 ct21 oc22 kV22 dc22 pm22 cd22 ct22 oc23 kV23 dc23 pm23 cd23 ct23 oc24 kV24 dc24 pm24 cd24 ct24 oc25 kV25 dc25 pm25 cd25 ct25 oc26 kV26 dc26 pm26 cd26 ct26 oc27 kV27 dc27 pm27 cd27 ct27 oc28 kV28 dc28 pm28 cd28 ct28 oc29 kV29 dc29 pm29 cd29 ct29 oc30 kV30 dc30 pm30 cd30 ct30 oc31 kV31 dc31 pm31 cd31 ct31 oc32 kV32 dc32 pm32 cd32 ct32 oc33 kV33 dc33 pm33 cd33 ct33 oc34 kV34 dc34 pm34 cd34 ct34 oc35 kV35 dc35 pm35 cd35 ct35 oc36 kV36 dc36 pm36 cd36 ct36 oc37 kV37 dc37 pm37 cd37 ct37 oc38 kV38 dc38 pm38 cd38 ct38 oc39 kV39 dc39 pm39 cd39 ct39 oc40 kV40 dc40 pm40 cd40 ct40 oc41 kV41 dc41 pm41 cd41 ct41 oc42 kV42 dc42 pm42 cd42 ct42 oc43 kV43 dc43 pm43 cd43 ct43 oc44 kV44 dc44 pm44 cd44 ct44 oc45 kV45 dc45 pm45 cd45 ct45 : Value}
    {aF aP aS : Addr} {esF esP : Array DictEntry} {nF nP nS : Nat} {ocS : Value} {odS : Option Addr} {itS : Array Value} {slS : Array (Option Value)} {tk1 tk2 tk3 tk4 tk5 tk6 tk7 : Tok}
    (a0 : PySem.W.nsIn K mainGlobals "has_form" = some (some (.ref f0)))
    (l0 : K.lookup f0 = some ⟨oc0, od0, .func (PySem.W.fnOf "has_form" "has_form" (defArgs sHas) (defBody sHas) (defScope sHas) .none kV0 dc0 pm0 an0 cd0 ct0), sl0⟩)
    (c0 : PySem.W.codeIn K cd0 "has_form" = true)
    (k0 : PySem.W.keepIn K (.ref f0) = true)
    (a1 : PySem.W.nsIn K mainGlobals "is_name" = some (some (.ref f1)))
    (l1 : K.lookup f1 = some ⟨oc1, od1, .func (PySem.W.fnOf "is_name" "is_name" (defArgs sName) (defBody sName) (defScope sName) .none kV1 dc1 pm1 an1 cd1 ct1), sl1⟩)
    (c1 : PySem.W.codeIn K cd1 "is_name" = true)
    (k1 : PySem.W.keepIn K (.ref f1) = true)
    (a2 : PySem.W.nsIn K mainGlobals "are_names" = some (some (.ref f2)))
    (l2 : K.lookup f2 = some ⟨oc2, od2, .func (PySem.W.fnOf "are_names" "are_names" (defArgs sNames) (defBody sNames) (defScope sNames) .none kV2 dc2 pm2 an2 cd2 ct2), sl2⟩)
    (c2 : PySem.W.codeIn K cd2 "are_names" = true)
    (k2 : PySem.W.keepIn K (.ref f2) = true)
    (a3 : PySem.W.nsIn K mainGlobals "_are_different" = some (some (.ref f3)))
    (l3 : K.lookup f3 = some ⟨oc3, od3, .func (PySem.W.fnOf "_are_different" "_are_different" (defArgs sDiff) (defBody sDiff) (defScope sDiff) .none kV3 dc3 pm3 an3 cd3 ct3), sl3⟩)
    (c3 : PySem.W.codeIn K cd3 "_are_different" = true)
    (k3 : PySem.W.keepIn K (.ref f3) = true)
    (a4 : PySem.W.nsIn K mainGlobals "is_integer" = some (some (.ref f4)))
    (l4 : K.lookup f4 = some ⟨oc4, od4, .func (PySem.W.fnOf "is_integer" "is_integer" (defArgs sInteger) (defBody sInteger) (defScope sInteger) .none kV4 dc4 pm4 an4 cd4 ct4), sl4⟩)
    (c4 : PySem.W.codeIn K cd4 "is_integer" = true)
    (k4 : PySem.W.keepIn K (.ref f4) = true)
    (a5 : PySem.W.nsIn K mainGlobals "_is_number" = some (some (.ref f5)))
    (l5 : K.lookup f5 = some ⟨oc5, od5, .func (PySem.W.fnOf "_is_number" "_is_number" (defArgs sNumber) (defBody sNumber) (defScope sNumber) .none kV5 dc5 pm5 an5 cd5 ct5), sl5⟩)
    (c5 : PySem.W.codeIn K cd5 "_is_number" = true)
    (k5 : PySem.W.keepIn K (.ref f5) = true)
    (a6 : PySem.W.nsIn K mainGlobals "is_core_number" = some (some (.ref f6)))
    (l6 : K.lookup f6 = some ⟨oc6, od6, .func (PySem.W.fnOf "is_core_number" "is_core_number" (defArgs sCore) (defBody sCore) (defScope sCore) .none kV6 dc6 pm6 an6 cd6 ct6), sl6⟩)
    (c6 : PySem.W.codeIn K cd6 "is_core_number" = true)
    (k6 : PySem.W.keepIn K (.ref f6) = true)
    (a7 : PySem.W.nsIn K mainGlobals "is_row" = some (some (.ref f7)))
    (l7 : K.lookup f7 = some ⟨oc7, od7, .func (PySem.W.fnOf "is_row" "is_row" (defArgs sRow) (defBody sRow) (defScope sRow) .none kV7 dc7 pm7 an7 cd7 ct7), sl7⟩)
    (c7 : PySem.W.codeIn K cd7 "is_row" = true)
    (k7 : PySem.W.keepIn K (.ref f7) = true)
    (a8 : PySem.W.nsIn K mainGlobals "are_rows" = some (some (.ref f8)))
    (l8 : K.lookup f8 = some ⟨oc8, od8, .func (PySem.W.fnOf "are_rows" "are_rows" (defArgs sRows) (defBody sRows) (defScope sRows) .none kV8 dc8 pm8 an8 cd8 ct8), sl8⟩)
    (c8 : PySem.W.codeIn K cd8 "are_rows" = true)
    (k8 : PySem.W.keepIn K (.ref f8) = true)
    (a9 : PySem.W.nsIn K mainGlobals "is_sign" = some (some (.ref f9)))
    (l9 : K.lookup f9 = some ⟨oc9, od9, .func (PySem.W.fnOf "is_sign" "is_sign" (defArgs sSign) (defBody sSign) (defScope sSign) .none kV9 dc9 pm9 an9 cd9 ct9), sl9⟩)
    (c9 : PySem.W.codeIn K cd9 "is_sign" = true)
    (k9 : PySem.W.keepIn K (.ref f9) = true)
    (a10 : PySem.W.nsIn K mainGlobals "_is_default" = some (some (.ref f10)))
    (l10 : K.lookup f10 = some ⟨oc10, od10, .func (PySem.W.fnOf "_is_default" "_is_default" (defArgs sDflt) (defBody sDflt) (defScope sDflt) .none kV10 dc10 pm10 an10 cd10 ct10), sl10⟩)
    (c10 : PySem.W.codeIn K cd10 "_is_default" = true)
    (k10 : PySem.W.keepIn K (.ref f10) = true)
    (a11 : PySem.W.nsIn K mainGlobals "_is_num" = some (some (.ref f11)))
    (l11 : K.lookup f11 = some ⟨oc11, od11, .func (PySem.W.fnOf "_is_num" "_is_num" (defArgs sFNum) (defBody sFNum) (defScope sFNum) .none kV11 dc11 pm11 an11 cd11 ct11), sl11⟩)
    (c11 : PySem.W.codeIn K cd11 "_is_num" = true)
    (k11 : PySem.W.keepIn K (.ref f11) = true)
    (a12 : PySem.W.nsIn K mainGlobals "_is_var" = some (some (.ref f12)))
    (l12 : K.lookup f12 = some ⟨oc12, od12, .func (PySem.W.fnOf "_is_var" "_is_var" (defArgs sFVar) (defBody sFVar) (defScope sFVar) .none kV12 dc12 pm12 an12 cd12 ct12), sl12⟩)
    (c12 : PySem.W.codeIn K cd12 "_is_var" = true)
    (k12 : PySem.W.keepIn K (.ref f12) = true)
    (a13 : PySem.W.nsIn K mainGlobals "_is_app" = some (some (.ref f13)))
    (l13 : K.lookup f13 = some ⟨oc13, od13, .func (PySem.W.fnOf "_is_app" "_is_app" (defArgs sFApp) (defBody sFApp) (defScope sFApp) .none kV13 dc13 pm13 an13 cd13 ct13), sl13⟩)
    (c13 : PySem.W.codeIn K cd13 "_is_app" = true)
    (k13 : PySem.W.keepIn K (.ref f13) = true)
    (a14 : PySem.W.nsIn K mainGlobals "_is_lam" = some (some (.ref f14)))
    (l14 : K.lookup f14 = some ⟨oc14, od14, .func (PySem.W.fnOf "_is_lam" "_is_lam" (defArgs sFLam) (defBody sFLam) (defScope sFLam) .none kV14 dc14 pm14 an14 cd14 ct14), sl14⟩)
    (c14 : PySem.W.codeIn K cd14 "_is_lam" = true)
    (k14 : PySem.W.keepIn K (.ref f14) = true)
    (a15 : PySem.W.nsIn K mainGlobals "_is_let" = some (some (.ref f15)))
    (l15 : K.lookup f15 = some ⟨oc15, od15, .func (PySem.W.fnOf "_is_let" "_is_let" (defArgs sFLet) (defBody sFLet) (defScope sFLet) .none kV15 dc15 pm15 an15 cd15 ct15), sl15⟩)
    (c15 : PySem.W.codeIn K cd15 "_is_let" = true)
    (k15 : PySem.W.keepIn K (.ref f15) = true)
    (a16 : PySem.W.nsIn K mainGlobals "_is_seq" = some (some (.ref f16)))
    (l16 : K.lookup f16 = some ⟨oc16, od16, .func (PySem.W.fnOf "_is_seq" "_is_seq" (defArgs sFSeq) (defBody sFSeq) (defScope sFSeq) .none kV16 dc16 pm16 an16 cd16 ct16), sl16⟩)
    (c16 : PySem.W.codeIn K cd16 "_is_seq" = true)
    (k16 : PySem.W.keepIn K (.ref f16) = true)
    (a17 : PySem.W.nsIn K mainGlobals "_is_con" = some (some (.ref f17)))
    (l17 : K.lookup f17 = some ⟨oc17, od17, .func (PySem.W.fnOf "_is_con" "_is_con" (defArgs sFCon) (defBody sFCon) (defScope sFCon) .none kV17 dc17 pm17 an17 cd17 ct17), sl17⟩)
    (c17 : PySem.W.codeIn K cd17 "_is_con" = true)
    (k17 : PySem.W.keepIn K (.ref f17) = true)
    (a18 : PySem.W.nsIn K mainGlobals "_is_case" = some (some (.ref f18)))
    (l18 : K.lookup f18 = some ⟨oc18, od18, .func (PySem.W.fnOf "_is_case" "_is_case" (defArgs sFCase) (defBody sFCase) (defScope sFCase) .none kV18 dc18 pm18 an18 cd18 ct18), sl18⟩)
    (c18 : PySem.W.codeIn K cd18 "_is_case" = true)
    (k18 : PySem.W.keepIn K (.ref f18) = true)
    (a19 : PySem.W.nsIn K mainGlobals "_is_pick" = some (some (.ref f19)))
    (l19 : K.lookup f19 = some ⟨oc19, od19, .func (PySem.W.fnOf "_is_pick" "_is_pick" (defArgs sFPick) (defBody sFPick) (defScope sFPick) .none kV19 dc19 pm19 an19 cd19 ct19), sl19⟩)
    (c19 : PySem.W.codeIn K cd19 "_is_pick" = true)
    (k19 : PySem.W.keepIn K (.ref f19) = true)
    (a20 : PySem.W.nsIn K mainGlobals "_is_prim" = some (some (.ref f20)))
    (l20 : K.lookup f20 = some ⟨oc20, od20, .func (PySem.W.fnOf "_is_prim" "_is_prim" (defArgs sFPrim) (defBody sFPrim) (defScope sFPrim) .none kV20 dc20 pm20 an20 cd20 ct20), sl20⟩)
    (c20 : PySem.W.codeIn K cd20 "_is_prim" = true)
    (k20 : PySem.W.keepIn K (.ref f20) = true)
    (a21 : PySem.W.nsIn K mainGlobals "_is_note" = some (some (.ref f21)))
    (l21 : K.lookup f21 = some ⟨oc21, od21, .func (PySem.W.fnOf "_is_note" "_is_note" (defArgs sFNote) (defBody sFNote) (defScope sFNote) .none kV21 dc21 pm21 an21 cd21 ct21), sl21⟩)
    (c21 : PySem.W.codeIn K cd21 "_is_note" = true)
    (k21 : PySem.W.keepIn K (.ref f21) = true)
    (a22 : PySem.W.nsIn K mainGlobals "parts_of" = some (some (.ref f22)))
    (l22 : K.lookup f22 = some ⟨oc22, od22, .func (PySem.W.fnOf "parts_of" "parts_of" (defArgs sParts) (defBody sParts) (defScope sParts) .none kV22 dc22 pm22 an22 cd22 ct22), sl22⟩)
    (c22 : PySem.W.codeIn K cd22 "parts_of" = true)
    (k22 : PySem.W.keepIn K (.ref f22) = true)
    (a23 : PySem.W.nsIn K mainGlobals "_default_parts" = some (some (.ref f23)))
    (l23 : K.lookup f23 = some ⟨oc23, od23, .func (PySem.W.fnOf "_default_parts" "_default_parts" (defArgs sPDflt) (defBody sPDflt) (defScope sPDflt) .none kV23 dc23 pm23 an23 cd23 ct23), sl23⟩)
    (c23 : PySem.W.codeIn K cd23 "_default_parts" = true)
    (k23 : PySem.W.keepIn K (.ref f23) = true)
    (a24 : PySem.W.nsIn K mainGlobals "_lam_body" = some (some (.ref f24)))
    (l24 : K.lookup f24 = some ⟨oc24, od24, .func (PySem.W.fnOf "_lam_body" "_lam_body" (defArgs sPLam) (defBody sPLam) (defScope sPLam) .none kV24 dc24 pm24 an24 cd24 ct24), sl24⟩)
    (c24 : PySem.W.codeIn K cd24 "_lam_body" = true)
    (k24 : PySem.W.keepIn K (.ref f24) = true)
    (a25 : PySem.W.nsIn K mainGlobals "_note_parts" = some (some (.ref f25)))
    (l25 : K.lookup f25 = some ⟨oc25, od25, .func (PySem.W.fnOf "_note_parts" "_note_parts" (defArgs sPNote) (defBody sPNote) (defScope sPNote) .none kV25 dc25 pm25 an25 cd25 ct25), sl25⟩)
    (c25 : PySem.W.codeIn K cd25 "_note_parts" = true)
    (k25 : PySem.W.keepIn K (.ref f25) = true)
    (a26 : PySem.W.nsIn K mainGlobals "_app_parts" = some (some (.ref f26)))
    (l26 : K.lookup f26 = some ⟨oc26, od26, .func (PySem.W.fnOf "_app_parts" "_app_parts" (defArgs sPApp) (defBody sPApp) (defScope sPApp) .none kV26 dc26 pm26 an26 cd26 ct26), sl26⟩)
    (c26 : PySem.W.codeIn K cd26 "_app_parts" = true)
    (k26 : PySem.W.keepIn K (.ref f26) = true)
    (a27 : PySem.W.nsIn K mainGlobals "_later_parts" = some (some (.ref f27)))
    (l27 : K.lookup f27 = some ⟨oc27, od27, .func (PySem.W.fnOf "_later_parts" "_later_parts" (defArgs sPLater) (defBody sPLater) (defScope sPLater) .none kV27 dc27 pm27 an27 cd27 ct27), sl27⟩)
    (c27 : PySem.W.codeIn K cd27 "_later_parts" = true)
    (k27 : PySem.W.keepIn K (.ref f27) = true)
    (a28 : PySem.W.nsIn K mainGlobals "_con_parts" = some (some (.ref f28)))
    (l28 : K.lookup f28 = some ⟨oc28, od28, .func (PySem.W.fnOf "_con_parts" "_con_parts" (defArgs sPCon) (defBody sPCon) (defScope sPCon) .none kV28 dc28 pm28 an28 cd28 ct28), sl28⟩)
    (c28 : PySem.W.codeIn K cd28 "_con_parts" = true)
    (k28 : PySem.W.keepIn K (.ref f28) = true)
    (a29 : PySem.W.nsIn K mainGlobals "_let_parts" = some (some (.ref f29)))
    (l29 : K.lookup f29 = some ⟨oc29, od29, .func (PySem.W.fnOf "_let_parts" "_let_parts" (defArgs sPLet) (defBody sPLet) (defScope sPLet) .none kV29 dc29 pm29 an29 cd29 ct29), sl29⟩)
    (c29 : PySem.W.codeIn K cd29 "_let_parts" = true)
    (k29 : PySem.W.keepIn K (.ref f29) = true)
    (a30 : PySem.W.nsIn K mainGlobals "_choice_parts" = some (some (.ref f30)))
    (l30 : K.lookup f30 = some ⟨oc30, od30, .func (PySem.W.fnOf "_choice_parts" "_choice_parts" (defArgs sPChoice) (defBody sPChoice) (defScope sPChoice) .none kV30 dc30 pm30 an30 cd30 ct30), sl30⟩)
    (c30 : PySem.W.codeIn K cd30 "_choice_parts" = true)
    (k30 : PySem.W.keepIn K (.ref f30) = true)
    (a31 : PySem.W.nsIn K mainGlobals "is_term" = some (some (.ref f31)))
    (l31 : K.lookup f31 = some ⟨oc31, od31, .func (PySem.W.fnOf "is_term" "is_term" (defArgs sIsTerm) (defBody sIsTerm) (defScope sIsTerm) .none kV31 dc31 pm31 an31 cd31 ct31), sl31⟩)
    (c31 : PySem.W.codeIn K cd31 "is_term" = true)
    (k31 : PySem.W.keepIn K (.ref f31) = true)
    (a32 : PySem.W.nsIn K mainGlobals "_law_draws" = some (some (.ref f32)))
    (l32 : K.lookup f32 = some ⟨oc32, od32, .func (PySem.W.fnOf "_law_draws" "_law_draws" (defArgs sDraws) (defBody sDraws) (defScope sDraws) .none kV32 dc32 pm32 an32 cd32 ct32), sl32⟩)
    (c32 : PySem.W.codeIn K cd32 "_law_draws" = true)
    (k32 : PySem.W.keepIn K (.ref f32) = true)
    (a33 : PySem.W.nsIn K mainGlobals "_law_take" = some (some (.ref f33)))
    (l33 : K.lookup f33 = some ⟨oc33, od33, .func (PySem.W.fnOf "_law_take" "_law_take" (defArgs sTake) (defBody sTake) (defScope sTake) .none kV33 dc33 pm33 an33 cd33 ct33), sl33⟩)
    (c33 : PySem.W.codeIn K cd33 "_law_take" = true)
    (k33 : PySem.W.keepIn K (.ref f33) = true)
    (a34 : PySem.W.nsIn K mainGlobals "_law_start" = some (some (.ref f34)))
    (l34 : K.lookup f34 = some ⟨oc34, od34, .func (PySem.W.fnOf "_law_start" "_law_start" (defArgs sStart) (defBody sStart) (defScope sStart) .none kV34 dc34 pm34 an34 cd34 ct34), sl34⟩)
    (c34 : PySem.W.codeIn K cd34 "_law_start" = true)
    (k34 : PySem.W.keepIn K (.ref f34) = true)
    (a35 : PySem.W.nsIn K mainGlobals "_law_name" = some (some (.ref f35)))
    (l35 : K.lookup f35 = some ⟨oc35, od35, .func (PySem.W.fnOf "_law_name" "_law_name" (defArgs sLName) (defBody sLName) (defScope sLName) .none kV35 dc35 pm35 an35 cd35 ct35), sl35⟩)
    (c35 : PySem.W.codeIn K cd35 "_law_name" = true)
    (k35 : PySem.W.keepIn K (.ref f35) = true)
    (a36 : PySem.W.nsIn K mainGlobals "_law_names" = some (some (.ref f36)))
    (l36 : K.lookup f36 = some ⟨oc36, od36, .func (PySem.W.fnOf "_law_names" "_law_names" (defArgs sLNames) (defBody sLNames) (defScope sLNames) .none kV36 dc36 pm36 an36 cd36 ct36), sl36⟩)
    (c36 : PySem.W.codeIn K cd36 "_law_names" = true)
    (k36 : PySem.W.keepIn K (.ref f36) = true)
    (a37 : PySem.W.nsIn K mainGlobals "_law_any_branch" = some (some (.ref f37)))
    (l37 : K.lookup f37 = some ⟨oc37, od37, .func (PySem.W.fnOf "_law_any_branch" "_law_any_branch" (defArgs sBranch) (defBody sBranch) (defScope sBranch) .none kV37 dc37 pm37 an37 cd37 ct37), sl37⟩)
    (c37 : PySem.W.codeIn K cd37 "_law_any_branch" = true)
    (k37 : PySem.W.keepIn K (.ref f37) = true)
    (a38 : PySem.W.nsIn K mainGlobals "_law_any" = some (some (.ref f38)))
    (l38 : K.lookup f38 = some ⟨oc38, od38, .func (PySem.W.fnOf "_law_any" "_law_any" (defArgs sAny) (defBody sAny) (defScope sAny) .none kV38 dc38 pm38 an38 cd38 ct38), sl38⟩)
    (c38 : PySem.W.codeIn K cd38 "_law_any" = true)
    (k38 : PySem.W.keepIn K (.ref f38) = true)
    (a39 : PySem.W.nsIn K mainGlobals "_law_replace" = some (some (.ref f39)))
    (l39 : K.lookup f39 = some ⟨oc39, od39, .func (PySem.W.fnOf "_law_replace" "_law_replace" (defArgs sReplace) (defBody sReplace) (defScope sReplace) .none kV39 dc39 pm39 an39 cd39 ct39), sl39⟩)
    (c39 : PySem.W.codeIn K cd39 "_law_replace" = true)
    (k39 : PySem.W.keepIn K (.ref f39) = true)
    (a40 : PySem.W.nsIn K mainGlobals "_law_kinds" = some (some (.ref f40)))
    (l40 : K.lookup f40 = some ⟨oc40, od40, .func (PySem.W.fnOf "_law_kinds" "_law_kinds" (defArgs sKinds) (defBody sKinds) (defScope sKinds) .none kV40 dc40 pm40 an40 cd40 ct40), sl40⟩)
    (c40 : PySem.W.codeIn K cd40 "_law_kinds" = true)
    (k40 : PySem.W.keepIn K (.ref f40) = true)
    (a41 : PySem.W.nsIn K mainGlobals "_law_good" = some (some (.ref f41)))
    (l41 : K.lookup f41 = some ⟨oc41, od41, .func (PySem.W.fnOf "_law_good" "_law_good" (defArgs sGood) (defBody sGood) (defScope sGood) .none kV41 dc41 pm41 an41 cd41 ct41), sl41⟩)
    (c41 : PySem.W.codeIn K cd41 "_law_good" = true)
    (k41 : PySem.W.keepIn K (.ref f41) = true)
    (a42 : PySem.W.nsIn K mainGlobals "_law_bad" = some (some (.ref f42)))
    (l42 : K.lookup f42 = some ⟨oc42, od42, .func (PySem.W.fnOf "_law_bad" "_law_bad" (defArgs sBad) (defBody sBad) (defScope sBad) .none kV42 dc42 pm42 an42 cd42 ct42), sl42⟩)
    (c42 : PySem.W.codeIn K cd42 "_law_bad" = true)
    (k42 : PySem.W.keepIn K (.ref f42) = true)
    (a43 : PySem.W.nsIn K mainGlobals "_law_chain" = some (some (.ref f43)))
    (l43 : K.lookup f43 = some ⟨oc43, od43, .func (PySem.W.fnOf "_law_chain" "_law_chain" (defArgs sChain) (defBody sChain) (defScope sChain) .none kV43 dc43 pm43 an43 cd43 ct43), sl43⟩)
    (c43 : PySem.W.codeIn K cd43 "_law_chain" = true)
    (k43 : PySem.W.keepIn K (.ref f43) = true)
    (a44 : PySem.W.nsIn K mainGlobals "_law_says" = some (some (.ref f44)))
    (l44 : K.lookup f44 = some ⟨oc44, od44, .func (PySem.W.fnOf "_law_says" "_law_says" (defArgs sSays) (defBody sSays) (defScope sSays) .none kV44 dc44 pm44 an44 cd44 ct44), sl44⟩)
    (c44 : PySem.W.codeIn K cd44 "_law_says" = true)
    (k44 : PySem.W.keepIn K (.ref f44) = true)
    (a45 : PySem.W.nsIn K mainGlobals "law" = some (some (.ref f45)))
    (l45 : K.lookup f45 = some ⟨oc45, od45, .func (PySem.W.fnOf "law" "law" (defArgs sLaw) (defBody sLaw) (defScope sLaw) .none kV45 dc45 pm45 an45 cd45 ct45), sl45⟩)
    (c45 : PySem.W.codeIn K cd45 "law" = true)
    (k45 : PySem.W.keepIn K (.ref f45) = true)
    (cst1 : PySem.W.nsIn K mainGlobals "LONGEST_NAME" = some (some (.int 80 tk1)))
    (cst2 : PySem.W.nsIn K mainGlobals "LARGEST_NUMBER" = some (some (.int 1000000000000000 tk2)))
    (cst3 : PySem.W.nsIn K mainGlobals "LARGEST_TAG" = some (some (.int 1000 tk3)))
    (cst4 : PySem.W.nsIn K mainGlobals "LARGEST_NOTE" = some (some (.int 1000000000000 tk4)))
    (cst5 : PySem.W.nsIn K mainGlobals "FIRST_CODE" = some (some (.int 33 tk5)))
    (cst6 : PySem.W.nsIn K mainGlobals "LAST_CODE" = some (some (.int 126 tk6)))
    (cst7 : PySem.W.nsIn K mainGlobals "PERCENT_CODE" = some (some (.int 37 tk7)))
    (gtS : PySem.W.nsIn K mainGlobals "SIGNS" = some (some (.ref aS)))
    (ltS : K.lookup aS = some ⟨ocS, odS, .seq itS nS, slS⟩)
    (ctS : ocS = .type "tuple")
    (vtS : strsAre signs itS.toList = true)
    (gdF : PySem.W.nsIn K mainGlobals "FORMS" = some (some (.ref aF)))
    (ldF : K.lookup aF = some ⟨.type "dict", none, .dict esF nF, #[]⟩)
    (kdF : PySem.W.KeysLit w.params esF.toList)
    (sdF : (aF == sysModules) = false)
    (vdF : keysAre esF.toList words = true)
    (wFnum : PySem.W.nsIn K aF "num" = some (some (.ref f11)))
    (wFvar : PySem.W.nsIn K aF "var" = some (some (.ref f12)))
    (wFapp : PySem.W.nsIn K aF "app" = some (some (.ref f13)))
    (wFlam : PySem.W.nsIn K aF "lam" = some (some (.ref f14)))
    (wFlet : PySem.W.nsIn K aF "let" = some (some (.ref f15)))
    (wFseq : PySem.W.nsIn K aF "seq" = some (some (.ref f16)))
    (wFcon : PySem.W.nsIn K aF "con" = some (some (.ref f17)))
    (wFcase : PySem.W.nsIn K aF "case" = some (some (.ref f18)))
    (wFpick : PySem.W.nsIn K aF "pick" = some (some (.ref f19)))
    (wFprim : PySem.W.nsIn K aF "prim" = some (some (.ref f20)))
    (wFnote : PySem.W.nsIn K aF "note" = some (some (.ref f21)))
    (gdP : PySem.W.nsIn K mainGlobals "PARTS" = some (some (.ref aP)))
    (ldP : K.lookup aP = some ⟨.type "dict", none, .dict esP nP, #[]⟩)
    (kdP : PySem.W.KeysLit w.params esP.toList)
    (sdP : (aP == sysModules) = false)
    (vdP : keysAre esP.toList pwords = true)
    (wPapp : PySem.W.nsIn K aP "app" = some (some (.ref f26)))
    (wPlam : PySem.W.nsIn K aP "lam" = some (some (.ref f24)))
    (wPlet : PySem.W.nsIn K aP "let" = some (some (.ref f29)))
    (wPseq : PySem.W.nsIn K aP "seq" = some (some (.ref f27)))
    (wPcon : PySem.W.nsIn K aP "con" = some (some (.ref f28)))
    (wPcase : PySem.W.nsIn K aP "case" = some (some (.ref f30)))
    (wPpick : PySem.W.nsIn K aP "pick" = some (some (.ref f30)))
    (wPprim : PySem.W.nsIn K aP "prim" = some (some (.ref f27)))
    (wPnote : PySem.W.nsIn K aP "note" = some (some (.ref f25)))
    (ndF : ([f11, f12, f13, f14, f15, f16, f17, f18, f19, f20, f21] : List Addr).Nodup)
    (ndP : ([f26, f24, f29, f27, f28, f30, f25] : List Addr).Nodup)
    (zlen : PySem.W.nsIn K mainGlobals "len" = some none)
    (zint : PySem.W.nsIn K mainGlobals "int" = some none)
    (zrange : PySem.W.nsIn K mainGlobals "range" = some none)
    (zabs : PySem.W.nsIn K mainGlobals "abs" = some none)
    (zisinstance : PySem.W.nsIn K mainGlobals "isinstance" = some none)
    (zstr : PySem.W.nsIn K mainGlobals "str" = some none)
    (zbool : PySem.W.nsIn K mainGlobals "bool" = some none)
    (ztuple : PySem.W.nsIn K mainGlobals "tuple" = some none)
    (zord : PySem.W.nsIn K mainGlobals "ord" = some none)
    (zall : PySem.W.nsIn K mainGlobals "all" = some none) :
    ∃ fd : FuncData, (∀ (s : Shared) (v : Value), BindsTo s fd ⟨[v], []⟩ [("script", v)]) ∧ ∀ base : Heap, K.In base → base.Ns mainGlobals mg → FnOk l.prog w K mg base CX0 20 fa fd ["script"] (spLaw K) := by
  have e := hfa.symm.trans (PySem.W.mg_of X G a45)
  cases e
  have nlen := PySem.W.mg_none_of X G zlen
  have nint := PySem.W.mg_none_of X G zint
  have nrange := PySem.W.mg_none_of X G zrange
  have nabs := PySem.W.mg_none_of X G zabs
  have nisinstance := PySem.W.mg_none_of X G zisinstance
  have nstr := PySem.W.mg_none_of X G zstr
  have nbool := PySem.W.mg_none_of X G zbool
  have ntuple := PySem.W.mg_none_of X G ztuple
  have nord := PySem.W.mg_none_of X G zord
  have nall := PySem.W.mg_none_of X G zall
  have FHas := fun_mk (st := sHas) l0 c0 k0
  have bHas := FHas.binds (ps := ["thing"]) fun _ _ _ _ _ _ us hl => match us, hl with | [_], _ => rfl
  have mHas := PySem.W.mg_of X G a0
  have FName := fun_mk (st := sName) l1 c1 k1
  have bName := FName.binds (ps := ["thing"]) fun _ _ _ _ _ _ us hl => match us, hl with | [_], _ => rfl
  have mName := PySem.W.mg_of X G a1
  have FNames := fun_mk (st := sNames) l2 c2 k2
  have bNames := FNames.binds (ps := ["things"]) fun _ _ _ _ _ _ us hl => match us, hl with | [_], _ => rfl
  have mNames := PySem.W.mg_of X G a2
  have FDiff := fun_mk (st := sDiff) l3 c3 k3
  have bDiff := FDiff.binds (ps := ["things"]) fun _ _ _ _ _ _ us hl => match us, hl with | [_], _ => rfl
  have mDiff := PySem.W.mg_of X G a3
  have FInteger := fun_mk (st := sInteger) l4 c4 k4
  have bInteger := FInteger.binds (ps := ["thing"]) fun _ _ _ _ _ _ us hl => match us, hl with | [_], _ => rfl
  have mInteger := PySem.W.mg_of X G a4
  have FNumber := fun_mk (st := sNumber) l5 c5 k5
  have bNumber := FNumber.binds (ps := ["thing", "least", "greatest"]) fun _ _ _ _ _ _ us hl => match us, hl with | [_, _, _], _ => rfl
  have mNumber := PySem.W.mg_of X G a5
  have FCore := fun_mk (st := sCore) l6 c6 k6
  have bCore := FCore.binds (ps := ["thing"]) fun _ _ _ _ _ _ us hl => match us, hl with | [_], _ => rfl
  have mCore := PySem.W.mg_of X G a6
  have FRow := fun_mk (st := sRow) l7 c7 k7
  have bRow := FRow.binds (ps := ["thing", "many"]) fun _ _ _ _ _ _ us hl => match us, hl with | [_, _], _ => rfl
  have mRow := PySem.W.mg_of X G a7
  have FRows := fun_mk (st := sRows) l8 c8 k8
  have bRows := FRows.binds (ps := ["thing", "many"]) fun _ _ _ _ _ _ us hl => match us, hl with | [_, _], _ => rfl
  have mRows := PySem.W.mg_of X G a8
  have FSign := fun_mk (st := sSign) l9 c9 k9
  have bSign := FSign.binds (ps := ["thing"]) fun _ _ _ _ _ _ us hl => match us, hl with | [_], _ => rfl
  have mSign := PySem.W.mg_of X G a9
  have FDflt := fun_mk (st := sDflt) l10 c10 k10
  have bDflt := FDflt.binds (ps := ["thing"]) fun _ _ _ _ _ _ us hl => match us, hl with | [_], _ => rfl
  have mDflt := PySem.W.mg_of X G a10
  have FFNum := fun_mk (st := sFNum) l11 c11 k11
  have bFNum := FFNum.binds (ps := ["term"]) fun _ _ _ _ _ _ us hl => match us, hl with | [_], _ => rfl
  have mFNum := PySem.W.mg_of X G a11
  have FFVar := fun_mk (st := sFVar) l12 c12 k12
  have bFVar := FFVar.binds (ps := ["term"]) fun _ _ _ _ _ _ us hl => match us, hl with | [_], _ => rfl
  have mFVar := PySem.W.mg_of X G a12
  have FFApp := fun_mk (st := sFApp) l13 c13 k13
  have bFApp := FFApp.binds (ps := ["term"]) fun _ _ _ _ _ _ us hl => match us, hl with | [_], _ => rfl
  have mFApp := PySem.W.mg_of X G a13
  have FFLam := fun_mk (st := sFLam) l14 c14 k14
  have bFLam := FFLam.binds (ps := ["term"]) fun _ _ _ _ _ _ us hl => match us, hl with | [_], _ => rfl
  have mFLam := PySem.W.mg_of X G a14
  have FFLet := fun_mk (st := sFLet) l15 c15 k15
  have bFLet := FFLet.binds (ps := ["term"]) fun _ _ _ _ _ _ us hl => match us, hl with | [_], _ => rfl
  have mFLet := PySem.W.mg_of X G a15
  have FFSeq := fun_mk (st := sFSeq) l16 c16 k16
  have bFSeq := FFSeq.binds (ps := ["term"]) fun _ _ _ _ _ _ us hl => match us, hl with | [_], _ => rfl
  have mFSeq := PySem.W.mg_of X G a16
  have FFCon := fun_mk (st := sFCon) l17 c17 k17
  have bFCon := FFCon.binds (ps := ["term"]) fun _ _ _ _ _ _ us hl => match us, hl with | [_], _ => rfl
  have mFCon := PySem.W.mg_of X G a17
  have FFCase := fun_mk (st := sFCase) l18 c18 k18
  have bFCase := FFCase.binds (ps := ["term"]) fun _ _ _ _ _ _ us hl => match us, hl with | [_], _ => rfl
  have mFCase := PySem.W.mg_of X G a18
  have FFPick := fun_mk (st := sFPick) l19 c19 k19
  have bFPick := FFPick.binds (ps := ["term"]) fun _ _ _ _ _ _ us hl => match us, hl with | [_], _ => rfl
  have mFPick := PySem.W.mg_of X G a19
  have FFPrim := fun_mk (st := sFPrim) l20 c20 k20
  have bFPrim := FFPrim.binds (ps := ["term"]) fun _ _ _ _ _ _ us hl => match us, hl with | [_], _ => rfl
  have mFPrim := PySem.W.mg_of X G a20
  have FFNote := fun_mk (st := sFNote) l21 c21 k21
  have bFNote := FFNote.binds (ps := ["term"]) fun _ _ _ _ _ _ us hl => match us, hl with | [_], _ => rfl
  have mFNote := PySem.W.mg_of X G a21
  have FParts := fun_mk (st := sParts) l22 c22 k22
  have bParts := FParts.binds (ps := ["term"]) fun _ _ _ _ _ _ us hl => match us, hl with | [_], _ => rfl
  have mParts := PySem.W.mg_of X G a22
  have FPDflt := fun_mk (st := sPDflt) l23 c23 k23
  have bPDflt := FPDflt.binds (ps := ["term"]) fun _ _ _ _ _ _ us hl => match us, hl with | [_], _ => rfl
  have mPDflt := PySem.W.mg_of X G a23
  have FPLam := fun_mk (st := sPLam) l24 c24 k24
  have bPLam := FPLam.binds (ps := ["term"]) fun _ _ _ _ _ _ us hl => match us, hl with | [_], _ => rfl
  have mPLam := PySem.W.mg_of X G a24
  have FPNote := fun_mk (st := sPNote) l25 c25 k25
  have bPNote := FPNote.binds (ps := ["term"]) fun _ _ _ _ _ _ us hl => match us, hl with | [_], _ => rfl
  have mPNote := PySem.W.mg_of X G a25
  have FPApp := fun_mk (st := sPApp) l26 c26 k26
  have bPApp := FPApp.binds (ps := ["term"]) fun _ _ _ _ _ _ us hl => match us, hl with | [_], _ => rfl
  have mPApp := PySem.W.mg_of X G a26
  have FPLater := fun_mk (st := sPLater) l27 c27 k27
  have bPLater := FPLater.binds (ps := ["term"]) fun _ _ _ _ _ _ us hl => match us, hl with | [_], _ => rfl
  have mPLater := PySem.W.mg_of X G a27
  have FPCon := fun_mk (st := sPCon) l28 c28 k28
  have bPCon := FPCon.binds (ps := ["term"]) fun _ _ _ _ _ _ us hl => match us, hl with | [_], _ => rfl
  have mPCon := PySem.W.mg_of X G a28
  have FPLet := fun_mk (st := sPLet) l29 c29 k29
  have bPLet := FPLet.binds (ps := ["term"]) fun _ _ _ _ _ _ us hl => match us, hl with | [_], _ => rfl
  have mPLet := PySem.W.mg_of X G a29
  have FPChoice := fun_mk (st := sPChoice) l30 c30 k30
  have bPChoice := FPChoice.binds (ps := ["term"]) fun _ _ _ _ _ _ us hl => match us, hl with | [_], _ => rfl
  have mPChoice := PySem.W.mg_of X G a30
  have FIsTerm := fun_mk (st := sIsTerm) l31 c31 k31
  have bIsTerm := FIsTerm.binds (ps := ["thing"]) fun _ _ _ _ _ _ us hl => match us, hl with | [_], _ => rfl
  have mIsTerm := PySem.W.mg_of X G a31
  have FDraws := fun_mk (st := sDraws) l32 c32 k32
  have bDraws := FDraws.binds (ps := ["script", "many"]) fun _ _ _ _ _ _ us hl => match us, hl with | [_, _], _ => rfl
  have mDraws := PySem.W.mg_of X G a32
  have FTake := fun_mk (st := sTake) l33 c33 k33
  have bTake := FTake.binds (ps := ["d"]) fun _ _ _ _ _ _ us hl => match us, hl with | [_], _ => rfl
  have mTake := PySem.W.mg_of X G a33
  have FStart := fun_mk (st := sStart) l34 c34 k34
  have bStart := FStart.binds (ps := ["script", "left"]) fun _ _ _ _ _ _ us hl => match us, hl with | [_, _], _ => rfl
  have mStart := PySem.W.mg_of X G a34
  have FLName := fun_mk (st := sLName) l35 c35 k35
  have bLName := FLName.binds (ps := ["d"]) fun _ _ _ _ _ _ us hl => match us, hl with | [_], _ => rfl
  have mLName := PySem.W.mg_of X G a35
  have FLNames := fun_mk (st := sLNames) l36 c36 k36
  have bLNames := FLNames.binds (ps := ["d", "many"]) fun _ _ _ _ _ _ us hl => match us, hl with | [_, _], _ => rfl
  have mLNames := PySem.W.mg_of X G a36
  have FBranch := fun_mk (st := sBranch) l37 c37 k37
  have bBranch := FBranch.binds (ps := ["d", "depth"]) fun _ _ _ _ _ _ us hl => match us, hl with | [_, _], _ => rfl
  have mBranch := PySem.W.mg_of X G a37
  have FAny := fun_mk (st := sAny) l38 c38 k38
  have bAny := FAny.binds (ps := ["d", "depth"]) fun _ _ _ _ _ _ us hl => match us, hl with | [_, _], _ => rfl
  have mAny := PySem.W.mg_of X G a38
  have FReplace := fun_mk (st := sReplace) l39 c39 k39
  have bReplace := FReplace.binds (ps := ["term", "at", "other"]) fun _ _ _ _ _ _ us hl => match us, hl with | [_, _, _], _ => rfl
  have mReplace := PySem.W.mg_of X G a39
  have FKinds := fun_mk (st := sKinds) l40 c40 k40
  have bKinds := FKinds.binds (ps := []) fun _ _ _ _ _ _ us hl => match us, hl with | [], _ => rfl
  have mKinds := PySem.W.mg_of X G a40
  have FGood := fun_mk (st := sGood) l41 c41 k41
  have bGood := FGood.binds (ps := ["draw"]) fun _ _ _ _ _ _ us hl => match us, hl with | [_], _ => rfl
  have mGood := PySem.W.mg_of X G a41
  have FBad := fun_mk (st := sBad) l42 c42 k42
  have bBad := FBad.binds (ps := ["draw"]) fun _ _ _ _ _ _ us hl => match us, hl with | [_], _ => rfl
  have mBad := PySem.W.mg_of X G a42
  have FChain := fun_mk (st := sChain) l43 c43 k43
  have bChain := FChain.binds (ps := ["many"]) fun _ _ _ _ _ _ us hl => match us, hl with | [_], _ => rfl
  have mChain := PySem.W.mg_of X G a43
  have FSays := fun_mk (st := sSays) l44 c44 k44
  have bSays := FSays.binds (ps := ["actual", "expected"]) fun _ _ _ _ _ _ us hl => match us, hl with | [_, _], _ => rfl
  have mSays := PySem.W.mg_of X G a44
  have FLaw := fun_mk (st := sLaw) l45 c45 k45
  have bLaw := FLaw.binds (ps := ["script"]) fun _ _ _ _ _ _ us hl => match us, hl with | [_], _ => rfl
  have mLaw := PySem.W.mg_of X G a45
  refine ⟨PySem.W.fnOf "law" "law" (defArgs sLaw) (defBody sLaw) (defScope sLaw) .none kV45 dc45 pm45 an45 cd45 ct45, fun s v => .of_eq rfl, fun base _ _ => ?_⟩
  have TD : TxtD mg := ⟨nlen, nint, nrange, nabs⟩
  have TF : TxtF K mg aS := ⟨nisinstance, nint, nstr, nbool, ntuple, nlen, nord, nall, ⟨_, PySem.W.mg_of X G cst1, _, rfl⟩, ⟨_, PySem.W.mg_of X G cst2, _, rfl⟩, ⟨_, PySem.W.mg_of X G cst3, _, rfl⟩, ⟨_, PySem.W.mg_of X G cst4, _, rfl⟩, ⟨_, PySem.W.mg_of X G cst5, _, rfl⟩, ⟨_, PySem.W.mg_of X G cst6, _, rfl⟩, ⟨_, PySem.W.mg_of X G cst7, _, rfl⟩, ⟨_, PySem.W.mg_of X G gtS, rfl⟩, written_tup (by decide) ltS ctS vtS⟩
  have CInteger := c_integer (P := l.prog) (w := w) (base := base) TF FInteger bInteger mInteger
  have CName := c_name (P := l.prog) (w := w) (base := base) TF FName bName mName
  have CNumber := c_number (P := l.prog) (w := w) (base := base) CInteger FNumber bNumber mNumber
  have CCore := c_core (P := l.prog) (w := w) (base := base) TF CNumber FCore bCore mCore
  have CRow := c_row (P := l.prog) (w := w) (base := base) TF FRow bRow mRow
  have CRows := c_rows (P := l.prog) (w := w) (base := base) TF CRow FRows bRows mRows
  have CSign := c_sign (P := l.prog) (w := w) (base := base) TF FSign bSign mSign
  have CDiffT := c_diffT (P := l.prog) (w := w) (base := base) TF FDiff bDiff mDiff
  have CDiffL := c_diffL (P := l.prog) (w := w) (base := base) TF FDiff bDiff mDiff
  have CNames := c_names (P := l.prog) (w := w) (base := base) TF CName CDiffT FNames bNames mNames
  have CDflt := c_dflt (P := l.prog) (w := w) (base := base) TF CName CRow FDflt bDflt mDflt
  have CFNum := c_FNum (P := l.prog) (w := w) (base := base) TF CCore FFNum bFNum mFNum
  have CFVar := c_FVar (P := l.prog) (w := w) (base := base) TF CName FFVar bFVar mFVar
  have CFApp := c_FApp (P := l.prog) (w := w) (base := base) TF FFApp bFApp mFApp
  have CFLam := c_FLam (P := l.prog) (w := w) (base := base) TF CName FFLam bFLam mFLam
  have CFLet := c_FLet (P := l.prog) (w := w) (base := base) TF CRows CNames FFLet bFLet mFLet
  have CFSeq := c_FSeq (P := l.prog) (w := w) (base := base) TF CName FFSeq bFSeq mFSeq
  have CFCon := c_FCon (P := l.prog) (w := w) (base := base) TF CNumber FFCon bFCon mFCon
  have CFCase := c_FCase (P := l.prog) (w := w) (base := base) TF CRows CNames CNumber CDflt FFCase bFCase mFCase
  have CFPick := c_FPick (P := l.prog) (w := w) (base := base) TF CRows CCore CDiffL CDflt FFPick bFPick mFPick
  have CFPrim := c_FPrim (P := l.prog) (w := w) (base := base) TF CSign FFPrim bFPrim mFPrim
  have CFNote := c_FNote (P := l.prog) (w := w) (base := base) TF CNumber FFNote bFNote mFNote
  have ndF2 : (([(f11, spForm fNum), (f12, spForm fVar), (f13, spForm fApp), (f14, spForm fLam), (f15, spForm fLet), (f16, spForm fSeq), (f17, spForm fCon), (f18, spForm fCase), (f19, spForm fPick), (f20, spForm fPrim), (f21, spForm fNote)] : List (Addr × Sp)).map (·.1)).Nodup := ndF
  have mF : ∀ z ∈ words, ∃ f, PySem.W.nsIn K aF z = some (some (.ref f)) ∧ tab [(f11, spForm fNum), (f12, spForm fVar), (f13, spForm fApp), (f14, spForm fLam), (f15, spForm fLet), (f16, spForm fSeq), (f17, spForm fCon), (f18, spForm fCase), (f19, spForm fPick), (f20, spForm fPrim), (f21, spForm fNote)] f = some (spForm (formW z)) := fun z hz => by
    simp only [words, List.mem_cons, List.not_mem_nil, or_false] at hz
    rcases hz with rfl | rfl | rfl | rfl | rfl | rfl | rfl | rfl | rfl | rfl | rfl
    · exact ⟨_, wFnum, (tab_mem ndF2 (.head _)).trans (congrArg some (congrArg spForm (funext fw_num)).symm)⟩
    · exact ⟨_, wFvar, (tab_mem ndF2 (.tail _ (.head _))).trans (congrArg some (congrArg spForm (funext fw_var)).symm)⟩
    · exact ⟨_, wFapp, (tab_mem ndF2 (.tail _ (.tail _ (.head _)))).trans (congrArg some (congrArg spForm (funext fw_app)).symm)⟩
    · exact ⟨_, wFlam, (tab_mem ndF2 (.tail _ (.tail _ (.tail _ (.head _))))).trans (congrArg some (congrArg spForm (funext fw_lam)).symm)⟩
    · exact ⟨_, wFlet, (tab_mem ndF2 (.tail _ (.tail _ (.tail _ (.tail _ (.head _)))))).trans (congrArg some (congrArg spForm (funext fw_let)).symm)⟩
    · exact ⟨_, wFseq, (tab_mem ndF2 (.tail _ (.tail _ (.tail _ (.tail _ (.tail _ (.head _))))))).trans (congrArg some (congrArg spForm (funext fw_seq)).symm)⟩
    · exact ⟨_, wFcon, (tab_mem ndF2 (.tail _ (.tail _ (.tail _ (.tail _ (.tail _ (.tail _ (.head _)))))))).trans (congrArg some (congrArg spForm (funext fw_con)).symm)⟩
    · exact ⟨_, wFcase, (tab_mem ndF2 (.tail _ (.tail _ (.tail _ (.tail _ (.tail _ (.tail _ (.tail _ (.head _))))))))).trans (congrArg some (congrArg spForm (funext fw_case)).symm)⟩
    · exact ⟨_, wFpick, (tab_mem ndF2 (.tail _ (.tail _ (.tail _ (.tail _ (.tail _ (.tail _ (.tail _ (.tail _ (.head _)))))))))).trans (congrArg some (congrArg spForm (funext fw_pick)).symm)⟩
    · exact ⟨_, wFprim, (tab_mem ndF2 (.tail _ (.tail _ (.tail _ (.tail _ (.tail _ (.tail _ (.tail _ (.tail _ (.tail _ (.head _))))))))))).trans (congrArg some (congrArg spForm (funext fw_prim)).symm)⟩
    · exact ⟨_, wFnote, (tab_mem ndF2 (.tail _ (.tail _ (.tail _ (.tail _ (.tail _ (.tail _ (.tail _ (.tail _ (.tail _ (.tail _ (.head _)))))))))))).trans (congrArg some (congrArg spForm (funext fw_note)).symm)⟩
  have hF : ∀ f sp, tab [(f11, spForm fNum), (f12, spForm fVar), (f13, spForm fApp), (f14, spForm fLam), (f15, spForm fLet), (f16, spForm fSeq), (f17, spForm fCon), (f18, spForm fCase), (f19, spForm fPick), (f20, spForm fPrim), (f21, spForm fNote)] f = some sp → Held l.prog w K mg base 4 f sp := fun f sp h => by
    have h := tab_of h
    rcases List.mem_cons.mp h with e | h
    · cases e
      exact held_of CFNum mFNum
    rcases List.mem_cons.mp h with e | h
    · cases e
      exact held_of CFVar mFVar
    rcases List.mem_cons.mp h with e | h
    · cases e
      exact held_of CFApp mFApp
    rcases List.mem_cons.mp h with e | h
    · cases e
      exact held_of CFLam mFLam
    rcases List.mem_cons.mp h with e | h
    · cases e
      exact held_of CFLet mFLet
    rcases List.mem_cons.mp h with e | h
    · cases e
      exact held_of CFSeq mFSeq
    rcases List.mem_cons.mp h with e | h
    · cases e
      exact held_of CFCon mFCon
    rcases List.mem_cons.mp h with e | h
    · cases e
      exact held_of CFCase mFCase
    rcases List.mem_cons.mp h with e | h
    · cases e
      exact held_of CFPick mFPick
    rcases List.mem_cons.mp h with e | h
    · cases e
      exact held_of CFPrim mFPrim
    rcases List.mem_cons.mp h with e | h
    · cases e
      exact held_of CFNote mFNote
    cases h
  have TM : TxtM l.prog w K mg base aF esF nF _ := ⟨nisinstance, ntuple, nstr, nlen, ⟨ldF, kdF, sdF⟩, ⟨_, PySem.W.mg_of X G gdF, rfl⟩, mF, fun z nz => nsIn_out ldF vdF nz, hF⟩
  have CPDflt := c_PDflt (P := l.prog) (w := w) (base := base)  FPDflt bPDflt mPDflt
  have CPLam := c_PLam (P := l.prog) (w := w) (base := base)  FPLam bPLam mPLam
  have CPNote := c_PNote (P := l.prog) (w := w) (base := base)  FPNote bPNote mPNote
  have CPApp := c_PApp (P := l.prog) (w := w) (base := base)  FPApp bPApp mPApp
  have CPLater := c_PLater (P := l.prog) (w := w) (base := base)  FPLater bPLater mPLater
  have CPCon := c_PCon (P := l.prog) (w := w) (base := base)  FPCon bPCon mPCon
  have CPLet := c_PLet (P := l.prog) (w := w) (base := base)  FPLet bPLet mPLet
  have CPChoice := c_PChoice (P := l.prog) (w := w) (base := base) CPDflt FPChoice bPChoice mPChoice
  have ndP2 : (([(f26, spPart (fun r => r.length = 2) fun r => r), (f24, spPart (fun r => r.length = 2) fun r => [arg 1 r]), (f29, spPart (fun r => r.length = 2 ∧ PairsD (arg 0 r)) gLet), (f27, spPart (fun r => r.length = 3) fun r => r.drop 1), (f28, spPart (fun r => r.length = 2 ∧ isTup (arg 1 r) = true) fun r => tl (arg 1 r)), (f30, spPart (fun r => r.length = 3 ∧ RowsD (arg 1 r) ∧ isDflt (arg 2 r) = true) gChoice), (f25, spPart (fun r => r.length = 2) fun r => [arg 1 r])] : List (Addr × Sp)).map (·.1)).Nodup := ndP
  have mP : ∀ z ∈ pwords, ∃ f C g, PySem.W.nsIn K aP z = some (some (.ref f)) ∧ tab [(f26, spPart (fun r => r.length = 2) fun r => r), (f24, spPart (fun r => r.length = 2) fun r => [arg 1 r]), (f29, spPart (fun r => r.length = 2 ∧ PairsD (arg 0 r)) gLet), (f27, spPart (fun r => r.length = 3) fun r => r.drop 1), (f28, spPart (fun r => r.length = 2 ∧ isTup (arg 1 r) = true) fun r => tl (arg 1 r)), (f30, spPart (fun r => r.length = 3 ∧ RowsD (arg 1 r) ∧ isDflt (arg 2 r) = true) gChoice), (f25, spPart (fun r => r.length = 2) fun r => [arg 1 r])] f = some (spPart C g) ∧ (∀ r, formW z r = true → C r) ∧ ∀ r, partsW z r = g r := fun z hz => by
    simp only [pwords, List.mem_cons, List.not_mem_nil, or_false] at hz
    rcases hz with rfl | rfl | rfl | rfl | rfl | rfl | rfl | rfl | rfl
    · exact ⟨_, _, _, wPapp, tab_mem ndP2 (.head _), fun r h => by rw [fw_app] at h; exact of_decide_eq_true h, pw_app⟩
    · exact ⟨_, _, _, wPlam, tab_mem ndP2 (.tail _ (.head _)), fun r h => by rw [fw_lam] at h; exact of_decide_eq_true (fand h).1, pw_lam⟩
    · exact ⟨_, _, _, wPlet, tab_mem ndP2 (.tail _ (.tail _ (.head _))), fun r h => by rw [fw_let] at h; exact ⟨of_decide_eq_true (fand (fand h).1).1, rows_are (fand (fand h).1).2⟩, pw_let⟩
    · exact ⟨_, _, _, wPseq, tab_mem ndP2 (.tail _ (.tail _ (.tail _ (.head _)))), fun r h => by rw [fw_seq] at h; exact of_decide_eq_true (fand h).1, pw_seq⟩
    · exact ⟨_, _, _, wPcon, tab_mem ndP2 (.tail _ (.tail _ (.tail _ (.tail _ (.head _))))), fun r h => by rw [fw_con] at h; exact ⟨of_decide_eq_true (fand h).1, (fand (fand h).2).2⟩, pw_con⟩
    · exact ⟨_, _, _, wPcase, tab_mem ndP2 (.tail _ (.tail _ (.tail _ (.tail _ (.tail _ (.head _)))))), fun r h => by rw [fw_case] at h; exact ⟨of_decide_eq_true (fand (fand (fand h).1).1).1, rows_some (fand (fand (fand h).1).1).2, (fand (fand h).1).2⟩, pw_case⟩
    · exact ⟨_, _, _, wPpick, tab_mem ndP2 (.tail _ (.tail _ (.tail _ (.tail _ (.tail _ (.head _)))))), fun r h => by rw [fw_pick] at h; exact ⟨of_decide_eq_true (fand (fand (fand h).1).1).1, rows_some (fand (fand (fand h).1).1).2, (fand (fand h).1).2⟩, pw_pick⟩
    · exact ⟨_, _, _, wPprim, tab_mem ndP2 (.tail _ (.tail _ (.tail _ (.head _)))), fun r h => by rw [fw_prim] at h; exact of_decide_eq_true (fand h).1, pw_prim⟩
    · exact ⟨_, _, _, wPnote, tab_mem ndP2 (.tail _ (.tail _ (.tail _ (.tail _ (.tail _ (.tail _ (.head _))))))), fun r h => by rw [fw_note] at h; exact of_decide_eq_true (fand h).1, pw_note⟩
  have hP : ∀ f sp, tab [(f26, spPart (fun r => r.length = 2) fun r => r), (f24, spPart (fun r => r.length = 2) fun r => [arg 1 r]), (f29, spPart (fun r => r.length = 2 ∧ PairsD (arg 0 r)) gLet), (f27, spPart (fun r => r.length = 3) fun r => r.drop 1), (f28, spPart (fun r => r.length = 2 ∧ isTup (arg 1 r) = true) fun r => tl (arg 1 r)), (f30, spPart (fun r => r.length = 3 ∧ RowsD (arg 1 r) ∧ isDflt (arg 2 r) = true) gChoice), (f25, spPart (fun r => r.length = 2) fun r => [arg 1 r])] f = some sp → Held l.prog w K mg base 2 f sp := fun f sp h => by
    have h := tab_of h
    rcases List.mem_cons.mp h with e | h
    · cases e
      exact held_of CPApp mPApp
    rcases List.mem_cons.mp h with e | h
    · cases e
      exact held_of CPLam mPLam
    rcases List.mem_cons.mp h with e | h
    · cases e
      exact held_of CPLet mPLet
    rcases List.mem_cons.mp h with e | h
    · cases e
      exact held_of CPLater mPLater
    rcases List.mem_cons.mp h with e | h
    · cases e
      exact held_of CPCon mPCon
    rcases List.mem_cons.mp h with e | h
    · cases e
      exact held_of CPChoice mPChoice
    rcases List.mem_cons.mp h with e | h
    · cases e
      exact held_of CPNote mPNote
    cases h
  have TN : TxtN l.prog w K mg base aP esP nP _ := ⟨⟨ldP, kdP, sdP⟩, ⟨_, PySem.W.mg_of X G gdP, rfl⟩, mP, fun z nz => nsIn_out ldP vdP nz, hP⟩
  have CHas := c_has (P := l.prog) (w := w) (base := base) TM FHas bHas mHas
  have CParts := c_parts (P := l.prog) (w := w) (base := base) TN FParts bParts mParts
  have CIsTerm := c_isTerm (P := l.prog) (w := w) (base := base) CHas CParts FIsTerm bIsTerm mIsTerm
  have TG : TxtG mg := ⟨nrange, ntuple⟩
  have TR : TxtR mg := ⟨nrange, ntuple, nisinstance, nlen, nstr, nbool⟩
  have CTake := c_take (P := l.prog) (w := w) (base := base) TD FTake bTake mTake
  have CDraws := c_draws (P := l.prog) (w := w) (base := base) TD FDraws bDraws mDraws
  have CLName := c_lname (P := l.prog) (w := w) (base := base) CTake FLName bLName mLName
  have CLNames := c_lnames (P := l.prog) (w := w) (base := base) TG CLName FLNames bLNames mLNames
  have CAny := c_any (P := l.prog) (w := w) (base := base) TG CTake CLName CLNames FAny bAny mAny FBranch bBranch mBranch 7
  have CKinds := c_kinds (P := l.prog) (w := w) (base := base)  FKinds bKinds mKinds
  have CReplace := c_replace (P := l.prog) (w := w) (base := base) TR CKinds FReplace bReplace mReplace 7
  have CGood := c_good (P := l.prog) (w := w) (base := base) TR FGood bGood mGood
  have CBad := c_bad (P := l.prog) (w := w) (base := base) TR FBad bBad mBad
  have CChain := c_chain (P := l.prog) (w := w) (base := base) TR FChain bChain mChain
  have CSays := c_says (P := l.prog) (w := w) (base := base) TR FSays bSays mSays
  have CStart := c_start (P := l.prog) (w := w) (base := base) CDraws FStart bStart mStart
  exact c_law TR CStart CTake CAny CIsTerm CReplace CGood CBad CChain CSays FLaw
theorem walk {l : PySem.W.OpenLaw} {q : Program} {loose : List Str} {XP : (Str → Option Value) → Heap → Prop} {YP : World → Heap → Prop} {d : DefRec} {K : Params → PySem.W.Frag} (hn : l.most = some 63) (hdf : d.params.defaults = [])
    (hY : ∀ (w : World) (h : Heap), YP w h → (K w.params).In h)
    (F : ∀ (w : World) (mg : Str → Option Value) (fa : Addr) (h : Heap), (K w.params).In h → h.Ns mainGlobals mg → mg d.name = some (.ref fa) →
      ∃ fd : FuncData, (∀ (s : Shared) (u : Value), BindsTo s fd ⟨[u], []⟩ [("script", u)]) ∧ ∀ base : Heap, (K w.params).In base → base.Ns mainGlobals mg → FnOk l.prog w (K w.params) mg base CX0 20 fa fd ["script"] (spLaw (K w.params))) :
    PySem.W.WalkO q loose XP YP l.row.toRowW d [] (fun f vs => PySem.call f vs) :=
  L2.walk_of (n := 63) (k := 20) (x := "script") (CX := fun _ => CX0) (sp := fun w => spLaw (K w.params)) hn (by decide) hdf ⟨rfl, by decide, by decide⟩ hY F (fun _ _ a ns hl _ hS => ⟨a, ns, rfl, hS, hl, fun _ => rfl⟩) fun _ _ _ _ _ z => z
end Toy
open PySem PySem.W PyProof.Rows
set_option maxRecDepth 100000 in
set_option maxHeartbeats 0 in
theorem PySem.Challenge.cw_needonce_k40_core_terms_and_others_holds : PySem.Challenge.rw_needonce_k40_core_terms_and_others.Holds := by
  w_on; o_law; k_head; (case hw => w_witness2)
  k_fill
  refine Toy.walk (l := PySem.Challenge.rw_needonce_k40_core_terms_and_others) rfl rfl (fun w h Y => PySem.W.kIn_of Y) ?F
  case F =>
    intro w mg fa h KX G hmg
    refine' Toy.all_mk KX G hmg ?a0 ?l0 ?c0 ?k0 ?a1 ?l1 ?c1 ?k1 ?a2 ?l2 ?c2 ?k2 ?a3 ?l3 ?c3 ?k3 ?a4 ?l4 ?c4 ?k4 ?a5 ?l5 ?c5 ?k5 ?a6 ?l6 ?c6 ?k6 ?a7 ?l7 ?c7 ?k7 ?a8 ?l8 ?c8 ?k8 ?a9 ?l9 ?c9 ?k9 ?a10 ?l10 ?c10 ?k10 ?a11 ?l11 ?c11 ?k11 ?a12 ?l12 ?c12 ?k12 ?a13 ?l13 ?c13 ?k13 ?a14 ?l14 ?c14 ?k14 ?a15 ?l15 ?c15 ?k15 ?a16 ?l16 ?c16 ?k16 ?a17 ?l17 ?c17 ?k17 ?a18 ?l18 ?c18 ?k18 ?a19 ?l19 ?c19 ?k19 ?a20 ?l20 ?c20 ?k20 ?a21 ?l21 ?c21 ?k21 ?a22 ?l22 ?c22 ?k22 ?a23 ?l23 ?c23 ?k23 ?a24 ?l24 ?c24 ?k24 ?a25 ?l25 ?c25 ?k25 ?a26 ?l26 ?c26 ?k26 ?a27 ?l27 ?c27 ?k27 ?a28 ?l28 ?c28 ?k28 ?a29 ?l29 ?c29 ?k29 ?a30 ?l30 ?c30 ?k30 ?a31 ?l31 ?c31 ?k31 ?a32 ?l32 ?c32 ?k32 ?a33 ?l33 ?c33 ?k33 ?a34 ?l34 ?c34 ?k34 ?a35 ?l35 ?c35 ?k35 ?a36 ?l36 ?c36 ?k36 ?a37 ?l37 ?c37 ?k37 ?a38 ?l38 ?c38 ?k38 ?a39 ?l39 ?c39 ?k39 ?a40 ?l40 ?c40 ?k40 ?a41 ?l41 ?c41 ?k41 ?a42 ?l42 ?c42 ?k42 ?a43 ?l43 ?c43 ?k43 ?a44 ?l44 ?c44 ?k44 ?a45 ?l45 ?c45 ?k45 ?cst1 ?cst2 ?cst3 ?cst4 ?cst5 ?cst6 ?cst7 ?gtS ?ltS ?ctS ?vtS ?gdF ?ldF ?kdF ?sdF ?vdF ?wFnum ?wFvar ?wFapp ?wFlam ?wFlet ?wFseq ?wFcon ?wFcase ?wFpick ?wFprim ?wFnote ?gdP ?ldP ?kdP ?sdP ?vdP ?wPapp ?wPlam ?wPlet ?wPseq ?wPcon ?wPcase ?wPpick ?wPprim ?wPnote ?ndF ?ndP ?zlen ?zint ?zrange ?zabs ?zisinstance ?zstr ?zbool ?ztuple ?zord ?zall
    (case a0 => k_is)
    (case l0 => k_is)
    (case c0 => k_is)
    (case k0 => k_is)
    (case a1 => k_is)
    (case l1 => k_is)
    (case c1 => k_is)
    (case k1 => k_is)
    (case a2 => k_is)
    (case l2 => k_is)
    (case c2 => k_is)
    (case k2 => k_is)
    (case a3 => k_is)
    (case l3 => k_is)
    (case c3 => k_is)
    (case k3 => k_is)
    (case a4 => k_is)
    (case l4 => k_is)
    (case c4 => k_is)
    (case k4 => k_is)
    (case a5 => k_is)
    (case l5 => k_is)
    (case c5 => k_is)
    (case k5 => k_is)
    (case a6 => k_is)
    (case l6 => k_is)
    (case c6 => k_is)
    (case k6 => k_is)
    (case a7 => k_is)
    (case l7 => k_is)
    (case c7 => k_is)
    (case k7 => k_is)
    (case a8 => k_is)
    (case l8 => k_is)
    (case c8 => k_is)
    (case k8 => k_is)
    (case a9 => k_is)
    (case l9 => k_is)
    (case c9 => k_is)
    (case k9 => k_is)
    (case a10 => k_is)
    (case l10 => k_is)
    (case c10 => k_is)
    (case k10 => k_is)
    (case a11 => k_is)
    (case l11 => k_is)
    (case c11 => k_is)
    (case k11 => k_is)
    (case a12 => k_is)
    (case l12 => k_is)
    (case c12 => k_is)
    (case k12 => k_is)
    (case a13 => k_is)
    (case l13 => k_is)
    (case c13 => k_is)
    (case k13 => k_is)
    (case a14 => k_is)
    (case l14 => k_is)
    (case c14 => k_is)
    (case k14 => k_is)
    (case a15 => k_is)
    (case l15 => k_is)
    (case c15 => k_is)
    (case k15 => k_is)
    (case a16 => k_is)
    (case l16 => k_is)
    (case c16 => k_is)
    (case k16 => k_is)
    (case a17 => k_is)
    (case l17 => k_is)
    (case c17 => k_is)
    (case k17 => k_is)
    (case a18 => k_is)
    (case l18 => k_is)
    (case c18 => k_is)
    (case k18 => k_is)
    (case a19 => k_is)
    (case l19 => k_is)
    (case c19 => k_is)
    (case k19 => k_is)
    (case a20 => k_is)
    (case l20 => k_is)
    (case c20 => k_is)
    (case k20 => k_is)
    (case a21 => k_is)
    (case l21 => k_is)
    (case c21 => k_is)
    (case k21 => k_is)
    (case a22 => k_is)
    (case l22 => k_is)
    (case c22 => k_is)
    (case k22 => k_is)
    (case a23 => k_is)
    (case l23 => k_is)
    (case c23 => k_is)
    (case k23 => k_is)
    (case a24 => k_is)
    (case l24 => k_is)
    (case c24 => k_is)
    (case k24 => k_is)
    (case a25 => k_is)
    (case l25 => k_is)
    (case c25 => k_is)
    (case k25 => k_is)
    (case a26 => k_is)
    (case l26 => k_is)
    (case c26 => k_is)
    (case k26 => k_is)
    (case a27 => k_is)
    (case l27 => k_is)
    (case c27 => k_is)
    (case k27 => k_is)
    (case a28 => k_is)
    (case l28 => k_is)
    (case c28 => k_is)
    (case k28 => k_is)
    (case a29 => k_is)
    (case l29 => k_is)
    (case c29 => k_is)
    (case k29 => k_is)
    (case a30 => k_is)
    (case l30 => k_is)
    (case c30 => k_is)
    (case k30 => k_is)
    (case a31 => k_is)
    (case l31 => k_is)
    (case c31 => k_is)
    (case k31 => k_is)
    (case a32 => k_is)
    (case l32 => k_is)
    (case c32 => k_is)
    (case k32 => k_is)
    (case a33 => k_is)
    (case l33 => k_is)
    (case c33 => k_is)
    (case k33 => k_is)
    (case a34 => k_is)
    (case l34 => k_is)
    (case c34 => k_is)
    (case k34 => k_is)
    (case a35 => k_is)
    (case l35 => k_is)
    (case c35 => k_is)
    (case k35 => k_is)
    (case a36 => k_is)
    (case l36 => k_is)
    (case c36 => k_is)
    (case k36 => k_is)
    (case a37 => k_is)
    (case l37 => k_is)
    (case c37 => k_is)
    (case k37 => k_is)
    (case a38 => k_is)
    (case l38 => k_is)
    (case c38 => k_is)
    (case k38 => k_is)
    (case a39 => k_is)
    (case l39 => k_is)
    (case c39 => k_is)
    (case k39 => k_is)
    (case a40 => k_is)
    (case l40 => k_is)
    (case c40 => k_is)
    (case k40 => k_is)
    (case a41 => k_is)
    (case l41 => k_is)
    (case c41 => k_is)
    (case k41 => k_is)
    (case a42 => k_is)
    (case l42 => k_is)
    (case c42 => k_is)
    (case k42 => k_is)
    (case a43 => k_is)
    (case l43 => k_is)
    (case c43 => k_is)
    (case k43 => k_is)
    (case a44 => k_is)
    (case l44 => k_is)
    (case c44 => k_is)
    (case k44 => k_is)
    (case a45 => k_is)
    (case l45 => k_is)
    (case c45 => k_is)
    (case k45 => k_is)
    (case cst1 => k_is)
    (case cst2 => k_is)
    (case cst3 => k_is)
    (case cst4 => k_is)
    (case cst5 => k_is)
    (case cst6 => k_is)
    (case cst7 => k_is)
    (case gtS => k_is)
    (case ltS => k_is)
    (case ctS => rfl)
    (case vtS => decide +kernel)
    (case gdF => k_is)
    (case ldF => k_is)
    (case kdF => exact ⟨⟨_, _, rfl, rfl⟩, ⟨_, _, rfl, rfl⟩, ⟨_, _, rfl, rfl⟩, ⟨_, _, rfl, rfl⟩, ⟨_, _, rfl, rfl⟩, ⟨_, _, rfl, rfl⟩, ⟨_, _, rfl, rfl⟩, ⟨_, _, rfl, rfl⟩, ⟨_, _, rfl, rfl⟩, ⟨_, _, rfl, rfl⟩, ⟨_, _, rfl, rfl⟩, trivial⟩)
    (case sdF => rfl)
    (case vdF => rfl)
    (case wFnum => k_is)
    (case wFvar => k_is)
    (case wFapp => k_is)
    (case wFlam => k_is)
    (case wFlet => k_is)
    (case wFseq => k_is)
    (case wFcon => k_is)
    (case wFcase => k_is)
    (case wFpick => k_is)
    (case wFprim => k_is)
    (case wFnote => k_is)
    (case gdP => k_is)
    (case ldP => k_is)
    (case kdP => exact ⟨⟨_, _, rfl, rfl⟩, ⟨_, _, rfl, rfl⟩, ⟨_, _, rfl, rfl⟩, ⟨_, _, rfl, rfl⟩, ⟨_, _, rfl, rfl⟩, ⟨_, _, rfl, rfl⟩, ⟨_, _, rfl, rfl⟩, ⟨_, _, rfl, rfl⟩, ⟨_, _, rfl, rfl⟩, trivial⟩)
    (case sdP => rfl)
    (case vdP => rfl)
    (case wPapp => k_is)
    (case wPlam => k_is)
    (case wPlet => k_is)
    (case wPseq => k_is)
    (case wPcon => k_is)
    (case wPcase => k_is)
    (case wPpick => k_is)
    (case wPprim => k_is)
    (case wPnote => k_is)
    (case ndF => decide)
    (case ndP => decide)
    (case zlen => k_is)
    (case zint => k_is)
    (case zrange => k_is)
    (case zabs => k_is)
    (case zisinstance => k_is)
    (case zstr => k_is)
    (case zbool => k_is)
    (case ztuple => k_is)
    (case zord => k_is)
    (case zall => k_is)

